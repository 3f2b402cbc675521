"""Seats that follow from others, and leaving them out."""

from heapq import heapify, heappop, heappush


class Seats:
    """Seats as triples (place, tuple of pairs (name place, index), index) over a table of kinds.

    What is told in some other kinds, too, is in no seat alone. later tells which seats are left out that
    follow from one behind them: "all", or "none", or, of a block of seats, those that are "sure". For the
    others may be left out later on: then a seat may be like one behind it, and goes ahead of it.
    """

    def __init__(self, table, seats, others, later):
        self.table = table
        self.later = later
        self.seats = {at: seat for at, seat in enumerate(seats)}
        self.borne = {at: table.unknowns(_kinds_of(seat)) for at, seat in enumerate(seats)}
        self.bearers = {}
        for at in self.borne:
            for unknown in self.borne[at]:
                self.bearers.setdefault(unknown, {})[at] = True
        self.fast = {unknown: True for unknown in table.unknowns(others)}
        self.lots = {}
        self.equals = {}
        for at in self.seats:
            self.lots.setdefault(self._lot(at), {})[at] = True
            self.equals[self.seats[at]] = self.equals.get(self.seats[at], 0) + 1

    def least(self):
        """List the seats that are left when, ever again, the last one that follows is left out."""
        return [self.seats[at] for at in self.places()]

    def places(self):
        """List the indexes of these seats.

        What does not follow can only come to do so when an unknown stands in it alone at last: so
        just the seats that had an unknown in common with one left out are looked at once more.
        """
        queue = [-at for at in self.seats]
        heapify(queue)
        while queue:
            at = -heappop(queue)
            if at in self.seats and self._follows(at):
                for other in self._left_out(at):
                    heappush(queue, -other)
        return sorted(self.seats)

    def _lot(self, at):
        """Give what seats have in common that can follow from one another."""
        place, seen, _ = self.seats[at]
        return place, tuple([one for one, _ in seen])

    def _left_out(self, at):
        """Leave a seat out, and list the seats that bear an unknown of it alone now."""
        self.equals[self.seats[at]] -= 1
        del self.lots[self._lot(at)][at]
        del self.seats[at]
        alone = []
        for unknown in self.borne[at]:
            bearers = self.bearers[unknown]
            del bearers[at]
            if len(bearers) == 1:
                alone.extend(list(bearers))
        return alone

    def _follows(self, at):
        if self.equals[self.seats[at]] > 1:
            return True
        own = {one: True for one in self.borne[at] if one not in self.fast and len(self.bearers[one]) == 1}
        mine = _kinds_of(self.seats[at])
        for other in self._likely(at, own) if own else []:
            if other != at and self._becomes(mine, _kinds_of(self.seats[other]), own):
                if other < at or self._is_sure(other, mine):
                    return True
        return False

    def _likely(self, at, own):
        """List the seats of the lot of one that bear the unknown that is borne least of those not its own."""
        lot = self.lots[self._lot(at)]
        others = [self.bearers[one] for one in self.borne[at] if one not in own]
        if not others:
            return list(lot)
        return [other for other in min(others, key=len) if other in lot]

    def _is_sure(self, at, kinds):
        """Tell whether a seat ahead of one is left out because of it, though this may be all its own later on."""
        if self.later != "sure" or not any([one in self.fast for one in self.borne[at]]):
            return self.later != "none"
        return not self._becomes(_kinds_of(self.seats[at]), kinds, {one: True for one in self.borne[at]})

    def _becomes(self, mine, its, own):
        """Tell whether some filling of its own unknowns makes these kinds those."""
        filled = {}
        done = {}
        todo = [(one, other) for one, other in zip(mine, its)]
        while todo:
            pair = todo.pop()
            one, other = pair
            if pair in done or one == other:
                continue
            done[pair] = True
            if one in own:
                if filled.setdefault(one, other) != other:
                    return False
            elif self.table.below(one) and self.table.below(other):
                todo.extend(list(zip(self.table.below(one), self.table.below(other))))
            else:
                return False
        return True


def _kinds_of(seat):
    return [kind for _, kind in seat[1]] + [seat[2]]
