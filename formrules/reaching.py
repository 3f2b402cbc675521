"""Which counts up to a bound free runs have, and the inputs by which real runs have them."""

from formrules.acting import Acting, Trails, spots_of
from formrules.errors import BadCount
from formrules.freeforms import SomePlaces
from formrules.freeruns import Sums
from formrules.tallies import Packing, StepRuns, slots_of
from formrules.terms import is_number

MOST_SUM = 60
# So many bits hold two counts of the greatest sum, and one bit more stays free.
BITS = 8


def is_count(form, thing):
    """Tell whether any value is a tuple of as many numbers from 0 on as a count of a form has."""
    if not isinstance(thing, tuple) or len(thing) != len(slots_of(form)) + 1:
        return False
    return all([is_number(one) and one >= 0 for one in thing])


def need_count(form, thing):
    """BadCount unless any value is a count of a form, by its shape, with a sum of at most 60."""
    if not is_count(form, thing) or sum(thing) > MOST_SUM:
        raise BadCount("this is no count of a sum up to 60")


class Reached(Sums):
    """Sums whose values are numbers of dicts from counts to trails of inputs; all counts lie within a bound."""

    def __init__(self, packing, bound):
        Sums.__init__(self)
        self.packing = packing
        self.bound = bound
        self.trails = Trails()
        self.dicts = []
        self.known = {}
        self.one = self._put({0: 0})

    def _put(self, counts):
        key = tuple(sorted(counts.items()))
        if key not in self.known:
            self.known[key] = len(self.dicts)
            self.dicts.append(counts)
        return self.known[key]

    def unit(self, at, inputs):
        """Give the value of what is counted at an index, and takes some inputs."""
        return self._put({self.packing.unit(at): self.trails.of(inputs)})

    def asked(self):
        """Give the value of an ask of a rule: any input will do."""
        return self._put({0: self.trails.of([0])})

    def plus(self, one, other):
        """Give the counts of going one way or another one."""
        if one == other:
            return one
        counts = {count: trail for count, trail in self.dicts[one].items()}
        for count, trail in self.dicts[other].items():
            counts.setdefault(count, trail)
        return self._put(counts)

    def times(self, one, other):
        """Give the counts of doing one thing and then another one."""
        if one == self.one or other == self.one:
            return other if one == self.one else one
        counts = {}
        for count, trail in self.dicts[one].items():
            self._add_behind(counts, count, trail, other)
        return self._put(counts)

    def _add_behind(self, counts, count, trail, other):
        """Add to a dict what comes of one count by doing something behind it; list the counts that are new."""
        fresh = []
        for more, behind in self.dicts[other].items():
            both = count + more
            if both not in counts and self.packing.is_within(both, self.bound):
                counts[both] = self.trails.both(trail, behind)
                fresh.append(both)
        return fresh

    def stepped(self, value):
        """Give the counts with one node more."""
        return self.times(value, self.unit(0, []))

    def looped(self, result, turns):
        """Give the result of a loop that can turn: it turns as often as it likes."""
        turn = self.stepped(turns)
        counts = {0: 0}
        todo = [0]
        while todo:
            count = todo.pop()
            todo.extend(self._add_behind(counts, count, counts[count], turn))
        star = self._put(counts)
        return {what: self.times(star, result[what]) for what in result}


class Reaching:
    """The free runs of a form that have just one count; acting has parts by which real runs have it."""

    def __init__(self, form, count):
        packing = Packing(BITS)
        things = [(at, thing) for at, thing in enumerate(slots_of(form), start=1) if count[at]]
        spots = spots_of(form, [form.indexes[form.key(thing)] for _, thing in things])
        # What never comes may be whatever makes the parts small.
        self.acting = Acting(form, spots, spots_of(form, list(range(len(form.things)))))
        self.count = sum([packing.unit(at) * one for at, one in enumerate(count)])
        self.sums = Reached(packing, self.count)
        self.runs = StepRuns(form.shelf, self.sums)
        values = {form.key(thing): self.sums.unit(at, self.acting.inputs(thing)) for at, thing in things}
        self.result = form.result(self.runs, SomePlaces(form, self.runs, values))

    def inputs(self, ending):
        """List inputs by which a real run has the count and an ending, None if no free run has it."""
        value = self.result.get(self.runs.coded(ending))
        if value is None or self.count not in self.sums.dicts[value]:
            return None
        return self.sums.trails.inputs_of(self.sums.dicts[value][self.count])
