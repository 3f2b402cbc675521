"""Finding the schemes of forms out of those of the forms within."""

from formrules.blocks import Blocks
from formrules.errors import TooMany
from formrules.kindtables import MOST_SEATS, need_small
from formrules.moulds import mould_of
from formrules.shelves import uses_in


class Schemes:
    """The schemes of a shelf's forms, found once each; a form that has none is told None."""

    def __init__(self, shelf):
        self.shelf = shelf
        self.known = {}

    def of(self, pair):
        """Give the scheme of a form with so many rows; TooMany(100)."""
        self._find([pair])
        return self.known[pair]

    def for_uses(self, e):
        """Give the dict of schemes in which all that own uses in e need are; TooMany(100)."""
        self._find(uses_in(e))
        return self.known

    def _find(self, pairs):
        for pair in self.shelf.needed(pairs):
            if pair not in self.known:
                self.known[pair] = self._found(pair)

    def _found(self, pair):
        mould = mould_of(self.known, self.shelf.rule(pair))
        if mould is None:
            return None
        blocks = Blocks(mould)
        return _told(blocks.table, blocks.least(), blocks.whole)


def _told(table, seats, whole):
    """Give the scheme of seats over a table; TooMany(100)."""
    indexes = []
    for _, seen, kind in seats:
        indexes.extend([one for _, one in seen] + [kind])
    indexes.append(whole)
    need_small(table, indexes)
    if len(seats) > MOST_SEATS:
        raise TooMany(MOST_SEATS)
    kinds = table.told(indexes)[::-1]
    told = []
    for place, seen, _ in seats:
        names = tuple([(at, kinds.pop()) for at, _ in seen])
        told.append((place, names, kinds.pop()))
    return ("scheme", tuple(told), kinds.pop())
