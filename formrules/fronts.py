"""Fronts: the least counts of free runs, the greatest ones, and the fewest steps of expressions."""

from formrules.bringing import Bringing, shelf_for_names
from formrules.freeforms import FreeForm
from formrules.linear import tableau_for
from formrules.tallies import MOST_SYMBOLS, SlotTallies, Tallies, TallyRuns, need_ending, packing_for
from formrules.whats import Whats

# What stands for endless many counts.
ENDLESS_MANY = ()
# Where there are more counts than these, it is asked which of them are cheapest at some prices.
MANY = 8


def front(book, name, many, ending):
    """Give the ascending tuple of the least counts of free runs with an ending.

    BadBook, BadForm, BadMany, TooMany(3), TooMany(100), NoPlain, BadEnding.
    """
    form = FreeForm(book, name, many)
    need_ending(form.whats, ending)
    return front_of(form, ending)


def front_of(form, ending):
    """Give the ascending tuple of the least counts of free runs of a form with an ending."""
    tallies = LeastTallies(form, 0)
    return tallies.told(tallies.counts(ending) or ())


def greatest(book, name, many, ending):
    """Give None if there are endless many counts, otherwise the greatest ones, ascending; the errors of front."""
    form = FreeForm(book, name, many)
    need_ending(form.whats, ending)
    tallies = GreatestTallies(form, 0)
    counts = tallies.counts(ending)
    return None if counts == ENDLESS_MANY else tallies.told(counts or ())


def least_steps(book, names, e, ending):
    """Give the fewest nodes worked out in a free run with an ending, None if there is none.

    BadBook, BadNames, BadExpression, BadEnding.
    """
    shelf = shelf_for_names(book, names, e)
    whats = Whats(book)
    need_ending(whats, ending)
    packing = packing_for(shelf, e, 0)
    symbols = TallyRuns(shelf, CheapestCounts(packing, MOST_SYMBOLS), None)
    bringing = Bringing(whats, e, TallyRuns(shelf, LeastCounts(packing, None), symbols))
    result = bringing.result({x: dim for x, dim in names})
    return min([result[what][0] for what in bringing.those_told(result, ending)], default=None)


class LeastCounts(Tallies):
    """Tallies that keep the least counts: that a loop turned before never lets less."""

    def kept(self, counts):
        """Give the ascending tuple of those counts within which no other one lies."""
        found = []
        for count in sorted({one: True for one in counts}):
            if not _has_one_within(self.packing, found, count):
                found.append(count)
        return tuple(found)


def _has_one_within(packing, counts, count):
    for one in counts:
        if packing.is_within(one, count):
            return True
    return False


class CheapestCounts(LeastCounts):
    """Tallies that keep, where there are many, just those least counts that are cheapest at some prices."""

    def kept(self, counts):
        """Give the ascending tuple of these counts."""
        most = MANY
        found = []
        for count in super().kept(counts):
            found.append(count)
            if len(found) > most:
                found = self._cheapest(found)
                most = max(most, 2 * len(found))
        return tuple(found)

    def _cheapest(self, counts):
        """List those counts that no mix of the others is at most."""
        told = [self.packing.unpacked(count, self.packing.many) for count in counts]
        return [count for count, one in zip(counts, told) if tableau_for(told, one).mix() is None]


class GreatestCounts(Tallies):
    """Tallies that keep the greatest counts, or tell that there are endless many."""

    def plus(self, one, other):
        """Give the counts of going one way or another one."""
        return ENDLESS_MANY if ENDLESS_MANY in (one, other) else super().plus(one, other)

    def times(self, one, other):
        """Give the counts of doing one thing and then another one."""
        return ENDLESS_MANY if ENDLESS_MANY in (one, other) else super().times(one, other)

    def filled(self, counts, given):
        """Give the counts in which what items stand for is put in."""
        return ENDLESS_MANY if counts == ENDLESS_MANY else super().filled(counts, given)

    def looped(self, result, turns):
        """Give the result of a loop that can turn: it can do so ever again."""
        return {what: ENDLESS_MANY for what in result}

    def kept(self, counts):
        """Give the ascending tuple of those counts that lie within no other one."""
        found = []
        for count in sorted({one: True for one in counts}, reverse=True):
            if not _lies_within_one(self.packing, count, found):
                found.append(count)
        return tuple(found[::-1])


def _lies_within_one(packing, count, counts):
    for one in counts:
        if packing.is_within(count, one):
            return True
    return False


class LeastTallies(SlotTallies):
    """The least counts of a form."""

    def sums_for(self, most):
        """Give the sums that keep the least counts."""
        return LeastCounts(self.packing, most)


class GreatestTallies(SlotTallies):
    """The greatest counts of a form."""

    def sums_for(self, most):
        """Give the sums that keep the greatest counts."""
        return GreatestCounts(self.packing, most)
