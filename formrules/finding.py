"""Finding the schemes of forms out of those of the forms within."""

from formrules.errors import TooMany
from formrules.kindtables import KindReader, KindTable
from formrules.seats import Seats
from formrules.shelves import uses_in
from formrules.solving import Solution
from formrules.walks import Walk

MOST_SEATS = 100
MOST_IN_KIND = 200


class Schemes:
    """The schemes of a shelf's forms, found once each; a form that has none is told None."""

    def __init__(self, shelf):
        self.shelf = shelf
        self.known = {}

    def of(self, pair):
        """Give the scheme of a form with so many rows; TooMany(100)."""
        self._find([pair])
        return self.known[pair]

    def for_uses(self, e):
        """Give the dict of schemes in which all that own uses in e need are; TooMany(100)."""
        self._find(uses_in(e))
        return self.known

    def _find(self, pairs):
        for pair in self.shelf.needed(pairs):
            if pair not in self.known:
                self.known[pair] = self._found(pair)

    def _found(self, pair):
        walk = Walk(self.known)
        top = walk.go(self.shelf.rule(pair), (), {})
        solution = Solution(walk.nodes.shapes, [(one, other) for _, one, other in walk.equal])
        if walk.lost or not solution.sound:
            return None
        table = KindTable()
        reader = KindReader(solution, table)
        seats = []
        for place, seen, kind in walk.seats:
            seats.append((place, tuple([(at, reader.read(one)) for at, one in seen]), reader.read(kind)))
        whole = reader.read(top)
        return _told(table, Seats(table, seats, whole).least(), whole)


def _told(table, seats, whole):
    """Give the scheme of seats over a table; TooMany(100)."""
    indexes = []
    for _, seen, kind in seats:
        indexes.extend([one for _, one in seen] + [kind])
    indexes.append(whole)
    need_small(table, indexes)
    if len(seats) > MOST_SEATS:
        raise TooMany(MOST_SEATS)
    kinds = table.told(indexes)[::-1]
    told = []
    for place, seen, _ in seats:
        names = tuple([(at, kinds.pop()) for at, _ in seen])
        told.append((place, names, kinds.pop()))
    return ("scheme", tuple(told), kinds.pop())


def need_small(table, indexes):
    """TooMany(100) if one of these kinds has more than 200 nodes."""
    if any([table.sizes[at] > MOST_IN_KIND for at in indexes]):
        raise TooMany(MOST_SEATS)
