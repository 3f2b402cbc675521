"""Tallies: free runs whose values are counts of nodes that are worked out, and of what places come to.

A count is kept as one number: each of its items has so many bits, the first one the lowest. What a form's
places come to has items of the form's own; where the form is used, what its parts come to is put in for these.
"""

from formrules.errors import BadEnding
from formrules.expanding import Sizes
from formrules.freeforms import SomePlaces
from formrules.freeruns import FreeRuns, Sums
from formrules.whats import OUTCOMES

# Nodes that are not counted.
UNCOUNTED = ("own", "part", "here")
# Counts of more items by themselves are not looked for; then uses are looked at one by one.
MOST_SYMBOLS = 400


class Packing:
    """Packs counts, each item into so many bits, of which the highest one stays free."""

    def __init__(self, bits):
        self.bits = bits
        self.mask = (1 << bits) - 1
        self.many = 1
        self.high = 1 << (bits - 1)

    def unit(self, at):
        """Give the count that has one at an index, otherwise 0."""
        while self.many <= at:
            self.high += 1 << (self.bits * self.many + self.bits - 1)
            self.many += 1
        return 1 << (self.bits * at)

    def is_within(self, one, other):
        """Tell whether a count is at most another one in all items."""
        return ((other | self.high) - one) & self.high == self.high

    def unpacked(self, count, many):
        """Give the tuple of the first items of a count."""
        return tuple([(count >> (self.bits * at)) & self.mask for at in range(many)])


def packing_for(shelf, e, more):
    """Give a packing for counts of runs of what an expression or use is written out as, with more bits."""
    sizes = Sizes(shelf)
    found = [sizes.of(e)]
    for nodes, copies in sizes.known.values():
        found.append(nodes + sum(copies.values()))
    return Packing(max(found).bit_length() + 1 + more)


class Tallies(Sums):
    """Sums whose values are tuples of counts; more than most, if that is not None, are told by None."""

    def __init__(self, packing, most):
        Sums.__init__(self)
        self.packing = packing
        self.most = most
        self.one = (0,)

    def kept(self, counts):
        """Give the tuple of those counts that are needed, of some that may be equal."""
        return tuple(sorted({count: True for count in counts}))

    def few(self, counts):
        """Give those counts that are needed, None if they are too many."""
        found = self.kept(counts)
        return found if self.most is None or len(found) <= self.most else None

    def plus(self, one, other):
        """Give the counts of going one way or another one."""
        if one is None or other is None:
            return None
        return one if one == other else self.few(one + other)

    def times(self, one, other):
        """Give the counts of doing one thing and then another one."""
        if one is None or other is None:
            return None
        if one == self.one or other == self.one:
            return other if one == self.one else one
        return self.few([mine + its for mine in one for its in other])

    def stepped(self, value):
        """Give the counts with one node more."""
        return value if value is None else tuple([count + 1 for count in value])

    def unit(self, at):
        """Give the value of what is counted at an index."""
        return (self.packing.unit(at),)

    def power(self, value, many):
        """Give the counts of doing one thing so many times."""
        found = self.one
        while many:
            if many & 1:
                found = self.times(found, value)
            many >>= 1
            if many:
                value = self.times(value, value)
        return found

    def filled(self, counts, given):
        """Give the counts in which what items stand for is put in; given tells values by indexes."""
        if counts is None:
            return None
        found = None
        for count in counts:
            value = self.filled_one(count, given)
            found = value if found is None else self.plus(found, value)
        return found

    def filled_one(self, count, given):
        """Give the counts that come of one count if what items stand for is put in."""
        value = self.times((count & self.packing.mask,), self.one)
        for at in given:
            many = (count >> (self.packing.bits * at)) & self.packing.mask
            if many:
                value = self.times(value, self.power(given[at], many))
        return value


class StepRuns(FreeRuns):
    """Free runs over counts, of outcomes alone: each node that is worked out counts one."""

    def found(self, frame, at, says):
        """Give the result of a node; None where due tells what must be found first, or the frame has a query."""
        result = super().found(frame, at, says)
        if result is None:
            return None
        outcomes = [what for what in result if what[0] in OUTCOMES]
        if frame.script.nodes[at][0] in UNCOUNTED:
            return {what: result[what] for what in outcomes}
        return {what: self.sums.stepped(result[what]) for what in outcomes}


class TallyRuns(StepRuns):
    """Free runs over tallies; symbols are those of forms with items of their own, None for these themselves."""

    def __init__(self, shelf, sums, symbols):
        StepRuns.__init__(self, shelf, sums)
        self.symbols = symbols
        self.indexes = {}
        if symbols is not None:
            self.dims = symbols.dims

    def result_of_use(self, frame, at, says):
        """Give the result of an own use, None if it is due: that of its form by items, parts being put in for these."""
        node = frame.script.nodes[at]
        pair = (node[1], len(node[4]))
        symbols = self if self.symbols is None else self.symbols
        inner = symbols.of_form(pair)
        given = {}
        while self._is_looked_at(inner) and inner.query is not None:
            number = self.answer(frame, at, says, inner.query)
            if number is None:
                return None
            result = self.results[number]
            items = {what: symbols.index_of(pair, inner.query, what) for what in result}
            given.update({items[what]: result[what] for what in result})
            inner = inner.with_answer(symbols.numbered({what: symbols.sums.unit(items[what]) for what in result}))
        key = (0, inner.unsaid())
        if key not in inner.known:
            return None
        told = symbols.results[inner.known[key]]
        if None in list(told.values()):
            return super().result_of_use(frame, at, says)
        return {what: self.sums.filled(told[what], given) for what in told}

    def _is_looked_at(self, inner):
        """Tell whether the result of a frame of a form is known, or its query; otherwise it is due."""
        key = (0, inner.unsaid())
        if inner.query is None and key not in inner.known:
            if self.symbols is None:
                self.due = (inner, 0, inner.unsaid())
                return False
            self.symbols.work(inner, 0, inner.unsaid())
        return True

    def index_of(self, pair, query, what):
        """Give the index of what a place of a form comes to; 0 is that of the nodes."""
        items = self.indexes.setdefault(pair, {})
        return items.setdefault((query, what), len(items) + 1)


class SlotTallies:
    """The counts of a form: their items are the nodes, then its slots. Below it, sums_for tells which are kept."""

    def __init__(self, form, more):
        self.form = form
        self.slots = slots_of(form)
        self.packing = packing_for(form.shelf, form.shelf.open_use(form.pair), more)
        sums = self.sums_for(None)
        self.runs = TallyRuns(form.shelf, sums, TallyRuns(form.shelf, self.sums_for(MOST_SYMBOLS), None))
        values = {form.key(thing): sums.unit(at) for at, thing in enumerate(self.slots, start=1)}
        self.result = form.result(self.runs, SomePlaces(form, self.runs, values))

    def sums_for(self, most):
        """Give the sums that keep the counts that are needed, at most so many where that is not None."""
        return Tallies(self.packing, most)

    def counts(self, ending):
        """Give the counts of an ending, None if no run has it."""
        return self.result.get(self.runs.coded(ending))

    def told(self, counts):
        """Give the ascending tuple of counts as they are told."""
        return tuple(sorted([self.packing.unpacked(count, len(self.slots) + 1) for count in counts]))


def slots_of(form):
    """List the things of a form that are outcomes."""
    return [thing for thing in form.things if thing[2][0] in OUTCOMES]


def need_ending(whats, thing):
    """BadEnding unless any value is an outcome by its form."""
    if not whats.lets(thing) or thing[0] not in OUTCOMES:
        raise BadEnding("this is no outcome")
