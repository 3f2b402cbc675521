"""Equations under freedoms: the greatest lots under which two forms are the same."""

from formrules.errors import TooMany
from formrules.freedoms import keeps, lot_rank, need_lot
from formrules.pairing import FREEDOMS
from formrules.sides import Sides
from formrules.surroundings import plays_of, told_apart

MOST_PLACES = 4
# What a place may be free to do.
CHOICES = ((), ("varies",), ("varies", "fails"), ("varies", "sets"), FREEDOMS)


def breaks(book, name, other, many, lot):
    """Give None if two sides are the same under a lot, otherwise a program within it, and inputs, that tell them.

    BadBook, BadForm, BadForm, OtherPlaces, BadMany, NoPlain, BadLot, TooMany(3), TooMany(100).
    """
    sides = Sides(book, name, other, many)
    need_lot(sides.shelf, (name, many), lot)
    sides.need_few()
    return told_apart(sides, _allowed(sides, lot))


def _allowed(sides, lot):
    """Give the dict from all part places to what they may do by a lot."""
    places = sides.shelf.placed_parts((sides.name, sides.many))
    return {place: [freedom for freedom in FREEDOMS if (place, freedom) in lot] for place in places}


def greatest_lots(book, name, other, many):
    """Give the tuple of the greatest lots under which two sides are the same.

    BadBook, BadForm, BadForm, OtherPlaces, BadMany, NoPlain, TooMany(3), TooMany(100), TooMany(4).
    """
    return Lots(_few(book, name, other, many)).same


def breaking_lots(book, name, other, many):
    """Give the tuple of the least lots under which two sides are not the same; the errors of greatest_lots."""
    return Lots(_few(book, name, other, many)).broken


def _few(book, name, other, many):
    sides = Sides(book, name, other, many)
    sides.need_few()
    need_few_places(sides)
    return sides


def need_few_places(sides):
    """TooMany(4) if the form with many rows has more part places."""
    if len(sides.shelf.part_places((sides.name, sides.many))) > MOST_PLACES:
        raise TooMany(MOST_PLACES)


class Lots:
    """The greatest lots under which sides are the same, and the least ones under which they are not."""

    def __init__(self, sides):
        self.sides = sides
        self.known = {}
        self.same = []
        self.broken = []
        for lot in self._all_lots():
            if not any([keeps(lot, one) for one in self.same]) and not any([keeps(one, lot) for one in self.broken]):
                self._place(lot)
        self.same = _ordered(self.same)
        self.broken = _ordered(self.broken)

    def _all_lots(self):
        found = [()]
        for place in self.sides.shelf.placed_parts((self.sides.name, self.sides.many)):
            choices = [tuple([(place, freedom) for freedom in choice]) for choice in CHOICES]
            found = [lot + choice for lot in found for choice in choices]
        return found

    def _place(self, lot):
        """Go from a lot to a greatest one that holds, or to a least one that does not."""
        if self._holds(lot):
            self.same.append(self._farthest(lot, True))
        else:
            self.broken.append(self._farthest(lot, False))

    def _farthest(self, lot, holds):
        """Go from lot to lot, by more items or by fewer, as long as they hold, or as long as they do not."""
        steps = self._beside(lot, holds)
        while steps:
            one = steps.pop()
            if self._holds(one) == holds:
                lot = one
                steps = self._beside(lot, holds)
        return lot

    def _beside(self, lot, more):
        """List the lots that have one item more, or one less."""
        if more:
            places = self.sides.shelf.placed_parts((self.sides.name, self.sides.many))
            items = [(place, freedom) for place in places for freedom in FREEDOMS if (place, freedom) not in lot]
            lots = [tuple(sorted(lot + (item,), key=lot_rank)) for item in items]
        else:
            lots = [tuple([one for one in lot if one != item]) for item in lot]
        return [one for one in lots if all([(place, "varies") in one for place, _ in one])]

    def _holds(self, lot):
        """Tell whether the sides are the same under a lot."""
        if lot not in self.known:
            self.known[lot] = plays_of(self.sides, _allowed(self.sides, lot)).first_unlike() is None
        return self.known[lot]


def _ordered(lots):
    """Give the tuple of lots, those with fewer items first, then item by item."""
    return tuple(sorted(lots, key=lambda lot: (len(lot), [lot_rank(item) for item in lot])))
