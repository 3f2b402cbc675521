"""Knots: spots that can only be renamed together; and renaming knot by knot."""

from formrules.books import is_expression_of
from formrules.errors import BadKnot, BadName, NotAlike
from formrules.freenames import free_names
from formrules.guards import are_paths, shelf_for, shelf_of
from formrules.layers import led
from formrules.likeness import first_unlike, unlike_read
from formrules.shapes import thing_at, with_thing_at
from formrules.spots import binders_in
from formrules.words import is_name


def knots(book, e):
    """Give the ascending tuple of all knots of e; BadBook, BadExpression."""
    return _knots_of(shelf_for(book, e), e)


def _knots_of(shelf, e):
    found = led(shelf, e)
    knot_of = {spot: [spot] for spot in list(binders_in(e)) + list(found)}
    for read in found:
        for binder in found[read]:
            if binder is not None and knot_of[binder][0] != knot_of[read][0]:
                _join(knot_of, binder, read)
    return tuple(sorted([tuple(sorted(knot_of[spot])) for spot in knot_of if knot_of[spot][0] == spot]))


def _join(knot_of, one, other):
    """Make one knot of the knots of two spots; the first spot of a knot stands for it."""
    whole = knot_of[one]
    more = list(knot_of[other])
    whole.extend(more)
    for spot in more:
        knot_of[spot] = whole


def renamed(book, e, knot, x):
    """Give e with x at all spots of a knot; BadBook, BadExpression, BadKnot, BadName."""
    shelf = shelf_for(book, e)
    _need_knot(shelf, e, knot)
    if not is_name(x):
        raise BadName("this is no name")
    return _renamed(e, knot, x)


def _need_knot(shelf, e, knot):
    if not are_paths(knot) or knot not in _knots_of(shelf, e):
        raise BadKnot("this is no knot of the expression")


def _renamed(e, knot, x):
    for spot in knot:
        e = with_thing_at(e, spot, x)
    return e


def barred(book, e, knot):
    """Give the names in e that a knot cannot have, None for a fixed one; the errors of renamed but BadName."""
    shelf = shelf_for(book, e)
    _need_knot(shelf, e, knot)
    found = led(shelf, e)
    if any([spot in found and None in found[spot] for spot in knot]):
        return None
    own = thing_at(e, knot[0])
    names = {thing_at(e, spot): True for spot in list(binders_in(e)) + list(found)}
    return tuple([x for x in sorted(names) if x != own and not _may_have(book, shelf, e, knot, x)])


def _may_have(book, shelf, e, knot, x):
    other = _renamed(e, knot, x)
    return is_expression_of(book, other) and unlike_read(shelf, e, other) is None


def moves(book, one, other):
    """Give pairs (knot, x) that rename one into other; the errors of first_unlike, NotAlike."""
    if first_unlike(book, one, other) is not None:
        raise NotAlike("these are not written out alike")
    shelf = shelf_of(book)
    due = [knot for knot in _knots_of(shelf, one) if thing_at(one, knot[0]) != thing_at(other, knot[0])]
    names = {}
    for e in (one, other):
        for knot in _knots_of(shelf, e):
            names[thing_at(e, knot[0])] = True
    # By way of new names nothing can be in the way of anything: a name that stands at no spot is
    # never barred, and what is other but for some knots with names of their own is alike to it.
    first = [(knot, x) for knot, x in zip(due, free_names(names, len(due)))]
    return tuple(first + [(knot, thing_at(other, knot[0])) for knot in due])
