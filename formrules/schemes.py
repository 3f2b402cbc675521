"""Schemes: what a use asks of its parts, by seats, and what kind it has then."""

from formrules.books import is_core
from formrules.errors import BadNames, BadParts, BadScheme, BadSignature
from formrules.finding import Schemes
from formrules.guards import shelf_with_rows
from formrules.signatures import is_signature
from formrules.solving import Solution
from formrules.terms import headed, is_kind, is_number
from formrules.walks import Walk, with_names
from formrules.words import is_name


def is_scheme(thing):
    """Tell whether any value is a scheme."""
    if headed(thing) != "scheme" or len(thing) != 3 or not isinstance(thing[1], tuple):
        return False
    return all([_is_seat(one) for one in thing[1]]) and is_kind(thing[2])


def _is_seat(thing):
    if not isinstance(thing, tuple) or len(thing) != 3:
        return False
    place, seen, kind = thing
    if not is_place(place, "part", "here") or not isinstance(seen, tuple) or not is_kind(kind):
        return False
    if not all([_is_pair(one) and is_place(one[0], "bind", "row") and is_kind(one[1]) for one in seen]):
        return False
    places = [at for at, _ in seen]
    return all([one < other for one, other in zip(places, places[1:])])


def _is_pair(thing):
    return isinstance(thing, tuple) and len(thing) == 2


def is_place(thing, plain, in_row):
    """Tell whether any value is a place with one of these heads, the second one for rows."""
    if headed(thing) not in (plain, in_row) or len(thing) != (2 if thing[0] == plain else 3):
        return False
    return all([is_number(at) and at >= 0 for at in thing[1:]])


def scheme(book, name, many):
    """Give the scheme of a form with so many rows; BadBook, BadForm, BadMany, TooMany(100)."""
    return Schemes(shelf_with_rows(book, name, many)).of((name, many))


def fits(told, names, parts, signature):
    """Tell whether a use with names and parts fits a scheme with a signature.

    BadScheme, BadNames, BadParts, BadSignature; BadParts as well if a seat's place has no part.
    """
    need_scheme(told)
    if not are_names(names):
        raise BadNames("these are no pairs of name places and names")
    if not are_parts(parts):
        raise BadParts("these are no pairs of part places and core expressions")
    if not is_signature(signature):
        raise BadSignature("this is no signature")
    if not have_parts(told, parts):
        raise BadParts("a place with a seat has no part")
    return is_fit(told, names, parts, signature)


def need_scheme(thing):
    """BadScheme unless any value is a scheme."""
    if not is_scheme(thing):
        raise BadScheme("this is no scheme")


def are_names(thing):
    """Tell whether any value is a tuple of pairs of different name places and different names."""
    if not _are_placed(thing, "bind", "row") or not all([is_name(x) for _, x in thing]):
        return False
    return len({x: True for _, x in thing}) == len(thing)


def are_parts(thing):
    """Tell whether any value is a tuple of pairs of different part places and core expressions."""
    return _are_placed(thing, "part", "here") and all([is_core(e) for _, e in thing])


def _are_placed(thing, plain, in_row):
    if not isinstance(thing, tuple):
        return False
    if not all([_is_pair(one) and is_place(one[0], plain, in_row) for one in thing]):
        return False
    return len({place: True for place, _ in thing}) == len(thing)


def have_parts(told, parts):
    """Tell whether each place that has a seat in a scheme has a part."""
    placed = {place: True for place, _ in parts}
    return all([place in placed for place, _, _ in told[1]])


def is_fit(told, names, parts, signature):
    """Tell what fits tells, of what is known to be right."""
    given = {place: x for place, x in names}
    placed = {place: e for place, e in parts}
    walk = Walk({})
    outer = {x: walk.nodes.put_fixed(kind) for x, kind in signature[0]}
    unknowns = {}
    walk.tie((), walk.nodes.put(told[2], unknowns), walk.nodes.put_fixed(signature[1]))
    for place, seen, kind in told[1]:
        let = [(given[at], walk.nodes.put(one, unknowns)) for at, one in seen if at in given]
        wanted = walk.nodes.put(kind, unknowns)
        walk.tie((), wanted, walk.go(placed[place], (), with_names(outer, let)))
    # A name that is free here is one that the signature does not tell.
    return not walk.free and Solution(walk.nodes.shapes, [(one, other) for _, one, other in walk.equal]).sound
