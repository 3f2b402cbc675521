"""Whether expressions are closed: whether no name stands free in what they are written out to."""

from formrules.guards import shelf_for
from formrules.layers import led


def is_closed(book, e):
    """Tell whether no copy of a read of e is led outside; BadBook, BadExpression."""
    return is_closed_on(shelf_for(book, e), e)


def is_closed_on(shelf, e):
    """Tell whether no copy of a read of an expression of a shelf is led outside."""
    found = led(shelf, e)
    return all([None not in found[path] for path in found])
