"""Which forms of a lot the others can write, and the least lots that can."""

from itertools import combinations

from formrules.errors import BadForm
from formrules.tables import TableMaker
from formrules.writings import bares_with


def needless(book, names):
    """Give the ascending tuple of the names whose forms the others of a lot can write; BadBook, BadLot, TooMany(40)."""
    makers = _makers(bares_with(book, names), names)
    return tuple([name for name in sorted(names) if _writes(makers[name], [one for one in names if one != name])])


def least_lots(book, names, name):
    """List the least lots of other names by which a form of a lot can be written.

    BadBook, BadLot, BadForm, TooMany(40).
    """
    bares = bares_with(book, names)
    if not isinstance(name, str) or name not in names:
        raise BadForm("this is no name of the lot")
    makers = _makers(bares, names)
    return _least([one for one in sorted(names) if one != name], [makers[name]])


def bases(book, names):
    """List the least lots by which all forms of a lot can be written; BadBook, BadLot, TooMany(40)."""
    makers = _makers(bares_with(book, names), names)
    return _least(sorted(names), [makers[name] for name in names])


def _makers(bares, names):
    """Give the dict from names to makers that have found the tables for their trees by the lot; TooMany(40)."""
    makers = {}
    for name in names:
        makers[name] = TableMaker(bares, names, bares.shelf.forms[name][3], bares.number(name))
        makers[name].find()
    return makers


def _writes(maker, names):
    """Tell whether a tree can be written by some of the forms."""
    return maker.whole in maker.written_by(names)


def _least(names, makers):
    """List the least lots of some names by which all trees can be written, those with fewer names first."""
    if not all([_writes(maker, names) for maker in makers]):
        return []
    others = {name: [one for one in names if one != name] for name in names}
    free = [name for name in names if all([_writes(maker, others[name]) for maker in makers])]
    found = []
    for many in range(len(free) + 1):
        for chosen in list(combinations(free, many)):
            lot = [name for name in names if name in chosen or name not in free]
            greater = any([all([name in lot for name in one]) for one in found])
            if not greater and all([_writes(maker, lot) for maker in makers]):
                found.append(lot)
    return sorted([tuple(lot) for lot in found], key=lambda lot: (len(lot), lot))
