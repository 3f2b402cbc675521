"""Surroundings: programs around uses of a form that tell it from another one."""

from formrules.books import is_expression_of
from formrules.closed import is_closed
from formrules.errors import TooMany
from formrules.kinds import kind_of
from formrules.pairing import Plays
from formrules.running import run
from formrules.shapes import nodes_of
from formrules.sides import Sides, is_use_of, with_other
from formrules.staging import Stage
from formrules.terms import is_figure

MOST_INPUTS = 200
MOST_EVENTS = 200


def unlike(book, name, other, many):
    """Give None if no surrounding tells two sides, otherwise a pair of one and inputs that do.

    BadBook, BadForm, BadForm, OtherPlaces, BadMany, NoPlain, TooMany(3), TooMany(100).
    """
    sides = Sides(book, name, other, many)
    sides.need_few()
    return told_apart(sides, None)


def told_apart(sides, allowed):
    """Give a pair (program, inputs) that tells sides whose places do what is allowed, None if none does."""
    plays = plays_of(sides, allowed)
    found = plays.first_unlike()
    if found is None:
        return None
    stage = stage_of(sides, plays, allowed)
    return stage.program(), stage.inputs(found[0], found[1])


def plays_of(sides, allowed):
    """Give the plays of two sides whose places do what is allowed."""
    pairs = [(sides.name, sides.many), (sides.other, sides.many)]
    return Plays(sides.shelf, sides.book[1], pairs, sides.told, allowed)


def stage_of(sides, plays, allowed):
    """Give the stage around a use of the first one of two sides."""
    return Stage(plays, sides.shelf.open_use((sides.name, sides.many)), sides.told, allowed)


def probe(book, name, other, many):
    """Give a surrounding that tells two sides, with some inputs, if any does; the errors of unlike."""
    sides = Sides(book, name, other, many)
    sides.need_few()
    return stage_of(sides, plays_of(sides, None), None).program()


def tells(book, name, other, many, thing):
    """Tell whether any value is a pair of a surrounding and inputs that tell two sides; the errors of unlike."""
    sides = Sides(book, name, other, many)
    sides.need_few()
    if not isinstance(thing, tuple) or len(thing) != 2 or not is_expression_of(book, thing[0]):
        return False
    e, inputs = thing
    if not isinstance(inputs, (list, tuple)) or len(inputs) > MOST_INPUTS:
        return False
    if not all([is_figure(one) for one in inputs]):
        return False
    if not all([len(node[4]) == many for _, node in nodes_of(e) if is_use_of(node, name)]):
        return False
    return _are_told(book, [e, with_other(name, other, e)], inputs)


def _are_told(book, programs, inputs):
    """Tell whether these are programs that have kinds and show unlike with inputs; False for TooMany."""
    try:
        if not all([is_program(book, e) for e in programs]):
            return False
        showings = [run(book, e, inputs, MOST_EVENTS) for e in programs]
    except TooMany:
        return False
    return showings[0] != showings[1]


def is_program(book, e):
    """Tell whether an expression of a book is a program that has a kind; TooMany(100)."""
    return is_closed(book, e) and kind_of(book, e) is not None
