"""Carrying expressions over to another book, form by form."""

from formrules.books import is_expression_of
from formrules.errors import BadExpression, NotWritten, TooMany
from formrules.guards import shelf_of
from formrules.shapes import assembled, kids, names_in, nodes_of, refit
from formrules.tables import TableMaker
from formrules.trees import Bares
from formrules.writings import need_lot

MOST_NODES = 400


def carried(one, other, names):
    """Give the dict from names of bare forms of one to least writings by those of other, None where there is none.

    BadBook for each book, BadLot, TooMany(40).
    """
    bares, others = _both(one, other, names)
    return _carried(bares, others, names)


def _both(one, other, names):
    """Give the bare forms of both books; BadBook for each, BadLot."""
    bares = Bares(shelf_of(one))
    others = Bares(shelf_of(other))
    need_lot(bares, names)
    return bares, others


def _carried(bares, others, names):
    found = {}
    lot = tuple(others.bare)
    for name in names:
        whole = others.forest.put(bares.forest.tree(bares.number(name)))
        maker = TableMaker(others, lot, bares.shelf.forms[name][3], whole)
        maker.find()
        found[name] = maker.least_writing()
    return found


def carry(one, other, names, e):
    """Give the expression of other that comes of e if its own uses are exchanged for least writings.

    BadBook for each book, BadLot, BadExpression, TooMany(40), NotWritten(name), TooMany(400).
    """
    bares, others = _both(one, other, names)
    if not is_expression_of(one, e) or not _can_be_carried(e, names, other[1]):
        raise BadExpression("this is no expression of these forms and of cells of the other book")
    found = _carried(bares, others, names)
    nodes = [node for _, node in nodes_of(e)]
    for node in nodes:
        if node[0] == "own" and found[node[1]] is None:
            raise NotWritten(node[1])
    if _size_of(nodes, found) > MOST_NODES:
        raise TooMany(MOST_NODES)
    return _made(nodes, found)


def _can_be_carried(e, names, cells):
    for _, node in nodes_of(e):
        if node[0] == "own" and node[1] not in names:
            return False
        if node[0] in ("get", "set") and node[1] not in cells:
            return False
    return True


def _size_of(nodes, found):
    """Give how many nodes come of these nodes, which are in order, each ahead of its parts."""
    sizes = []
    for node in nodes[::-1]:
        parts = [sizes.pop() for _ in kids(node)]
        if node[0] == "own":
            leaves = [one for _, one in nodes_of(found[node[1]])]
            sizes.append(sum([parts[one[1]] if one[0] == "part" else 1 for one in leaves]))
        else:
            sizes.append(1 + sum(parts))
    return sizes[0]


def _made(nodes, found):
    """Give what comes of these nodes, which are in order, parts first."""
    made = []
    for node in nodes[::-1]:
        parts = [made.pop() for _ in kids(node)]
        if node[0] == "own":
            writing = [one for _, one in nodes_of(found[node[1]])]
            made.append(assembled(writing, {}, {("part", i): part for i, part in enumerate(parts)}))
        else:
            made.append(refit(node, names_in(node), parts))
    return made[0]
