"""Equations that hold for all counts of free runs, and counts for which no other ones hold."""

from formrules.errors import BadRow
from formrules.freeforms import FreeForm, SomePlaces
from formrules.linear import Echelon, orthogonal
from formrules.reaching import BITS, MOST_SUM, Reaching, is_count
from formrules.tallies import Packing, SlotTallies, StepRuns, Tallies, need_ending, slots_of
from formrules.terms import is_number

# So deep loops can stand in one another; each may double what is counted.
MOST_DEEP = 152


def equations(book, name, many, ending):
    """Give the reduced tuple of rows of which all rows come that hold for an ending, None if no run has it.

    BadBook, BadForm, BadMany, TooMany(3), TooMany(100), NoPlain, BadEnding.
    """
    form = FreeForm(book, name, many)
    need_ending(form.whats, ending)
    counts = _counts_around(form, ending)
    if not counts:
        return None
    rows = [list(count) + [-1] for count in counts]
    return tuple([tuple(row) for row in orthogonal(rows, len(rows[0]))])


def _counts_around(form, ending):
    """Give counts of which all others are mixes, as few as can be, () if no run has the ending."""
    tallies = SpanningTallies(form, MOST_DEEP)
    return tallies.told(tallies.counts(ending) or ())


def spanning(book, name, many, ending):
    """Give a tuple of counts for which no rows hold but those that hold for all, None if no run has the ending.

    The errors of equations.
    """
    form = FreeForm(book, name, many)
    need_ending(form.whats, ending)
    counts = _counts_around(form, ending)
    if not counts:
        return None
    light = _light_counts(form, ending)
    return light if len(light) == len(counts) else counts


def _light_counts(form, ending):
    """Give such counts with the least sums, as far as these are up to 60."""
    packing = Packing(BITS)
    sums = LightCounts(packing, None)
    runs = StepRuns(form.shelf, sums)
    values = {form.key(thing): sums.unit(at) for at, thing in enumerate(slots_of(form), start=1)}
    result = form.result(runs, SomePlaces(form, runs, values))
    counts = result.get(runs.coded(ending), ())
    return tuple(sorted([packing.unpacked(count, len(slots_of(form)) + 1) for count in counts]))


def is_spanning(book, name, many, ending, thing):
    """Tell whether any value is such a tuple of counts, each with a sum of at most 60; the errors of equations."""
    form = FreeForm(book, name, many)
    need_ending(form.whats, ending)
    counts = _counts_around(form, ending)
    if not counts or thing is None:
        return not counts and thing is None
    if not isinstance(thing, tuple) or len(thing) != len(counts):
        return False
    if not all([is_count(form, one) and sum(one) <= MOST_SUM for one in thing]):
        return False
    echelon = Echelon()
    if not all([echelon.takes([1] + list(one)) for one in thing]):
        return False
    return all([Reaching(form, one).inputs(ending) is not None for one in thing])


def breaking(book, name, many, ending, row):
    """Give None if a row holds for all counts, otherwise one for which it does not; the errors of equations, BadRow."""
    form = FreeForm(book, name, many)
    need_ending(form.whats, ending)
    if not isinstance(row, tuple) or len(row) != len(slots_of(form)) + 2 or not all([is_number(one) for one in row]):
        raise BadRow("this is no tuple of as many whole numbers as items, and one more")
    for count in _counts_around(form, ending):
        if sum([times * one for times, one in zip(row, count)]) != row[-1]:
            return count
    return None


class SpanningCounts(Tallies):
    """Tallies that keep counts of which all others are mixes, and none of the others kept is."""

    def kept(self, counts):
        """Give the tuple of those counts that are no mix of the ones ahead of them."""
        echelon = Echelon()
        found = []
        for count in counts:
            if count not in found and echelon.takes((1,) + self.packing.unpacked(count, self.packing.many)):
                found.append(count)
        return tuple(found)

    def times(self, one, other):
        """Give the counts of doing one thing and then another one: one of the two varies at a time."""
        return self.kept([one[0] + its for its in other] + [mine + other[0] for mine in one[1:]])

    def looped(self, result, turns):
        """Give the result of a loop that can turn: one turn more tells all that turning adds."""
        turned = self.stepped(turns)
        return {what: self.kept(list(result[what]) + [result[what][0] + turn for turn in turned]) for what in result}

    def filled(self, counts, given):
        """Give the counts in which what items stand for is put in: one doing of one of them varies at a time."""
        found = []
        done = {}
        for count in counts:
            whole = count & self.packing.mask
            used = []
            for at in given:
                many = (count >> (self.packing.bits * at)) & self.packing.mask
                if many:
                    whole += many * given[at][0]
                    used.append(at)
            found.append(whole)
            for at in used:
                if at not in done:
                    done[at] = True
                    found.extend([whole - given[at][0] + one for one in given[at][1:]])
        return self.kept(found)


class SpanningTallies(SlotTallies):
    """Counts of a form of which all others are mixes."""

    def sums_for(self, most):
        """Give the sums that keep such counts; they are never too many."""
        return SpanningCounts(self.packing, None)


class LightCounts(Tallies):
    """Tallies that keep such counts, too, those with the least sums: for each sum those up to it tell all up to it."""

    def kept(self, counts):
        """Give the tuple of those counts, by their sums, that are no mix of the ones ahead of them."""
        # The rest by the mask is the sum of all items, as each counts as one in it.
        ranked = sorted([(count % self.packing.mask, count) for count in {one: True for one in counts}])
        echelon = Echelon()
        found = []
        for weight, count in ranked:
            if weight <= MOST_SUM and echelon.takes((1,) + self.packing.unpacked(count, self.packing.many)):
                found.append(count)
        return tuple(found)

    def stepped(self, value):
        """Give the counts with one node more."""
        return self.kept([count + 1 for count in value])

    def looped(self, result, turns):
        """Give the result of a loop that can turn: turns are added as long as this tells more, or by less sums."""
        turned = self.stepped(turns)
        found = {}
        for what in result:
            counts, more = (), result[what]
            while self._weights(more) != self._weights(counts):
                counts = more
                more = self.plus(counts, self.times(counts, turned))
            found[what] = counts
        return found

    def _weights(self, counts):
        return [count % self.packing.mask for count in counts]
