"""The weakest signature of an expression, found by schemes alone."""

from formrules.errors import TooMany
from formrules.finding import Schemes
from formrules.guards import shelf_for
from formrules.kindtables import MOST_IN_KIND, MOST_SEATS, KindReader, KindTable, need_small
from formrules.moulds import mould_of


def signature_of(book, e):
    """Give the weakest signature of what e is written out to, None without one.

    BadBook, BadExpression, TooMany(100).
    """
    mould = mould_of(Schemes(shelf_for(book, e)).for_uses(e), e)
    if mould is None:
        return None
    names = sorted(mould.free)
    nodes = [mould.free[x] for x in names] + [mould.whole]
    table = KindTable()
    reader = KindReader(mould.solution, table)
    if not all([mould.solution.opened(node, MOST_IN_KIND) for node in nodes]):
        raise TooMany(MOST_SEATS)
    kinds = [reader.read(node) for node in nodes]
    need_small(table, kinds)
    told = table.told(kinds)
    return tuple([(x, kind) for x, kind in zip(names, told)]), told[-1]


def kind_of(book, e):
    """Give the kind in the weakest signature, None without one; the errors of signature_of."""
    found = signature_of(book, e)
    return None if found is None else found[1]
