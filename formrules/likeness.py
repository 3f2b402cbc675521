"""Whether expressions are written out alike, told by their binders alone."""

from formrules.errors import NotSame
from formrules.guards import need_expression, shelf_of
from formrules.layers import led
from formrules.shapes import names_in, nodes_of, assembled, thing_at


def same_but_names(book, one, other):
    """Tell whether expressions differ at most at their spots; BadBook, BadExpression for each."""
    _shelf_for_both(book, one, other)
    return _blank(one) == _blank(other)


def _shelf_for_both(book, one, other):
    shelf = shelf_of(book)
    need_expression(book, one)
    need_expression(book, other)
    return shelf


def _blank(e):
    """Give e with the same word at all its spots."""
    nodes = [node for _, node in nodes_of(e)]
    return assembled(nodes, {x: "" for node in nodes for x in names_in(node)}, {})


def first_unlike(book, one, other):
    """Give the least read that is led elsewhere in the other one, None for none.

    The errors of same_but_names, NotSame.
    """
    shelf = _shelf_for_both(book, one, other)
    if _blank(one) != _blank(other):
        raise NotSame("these are unlike in more than names")
    return unlike_read(shelf, one, other)


def unlike_read(shelf, one, other):
    """Give the least unlike read of expressions that are the same but for names, or None."""
    led_one, led_other = led(shelf, one), led(shelf, other)
    for path in led_one:
        if led_one[path] != led_other[path]:
            return path
        if None in led_one[path] and thing_at(one, path) != thing_at(other, path):
            return path
    return None
