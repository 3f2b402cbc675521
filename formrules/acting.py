"""Parts that do what is wanted of them: core expressions that test names, and go by inputs where they may choose."""

from formrules.dims import NO, YES, dim_rank, dims_of, numbered
from formrules.freenames import free_names
from formrules.shapes import assembled, nodes_of

ASK = ("ask",)
ENDLESS = ("endless",)
NUMBER_0 = ("number", 0)
LOOP = ("while", YES, NUMBER_0)
# An input chooses one of so many ways, the last of which may stand for all that are left.
MOST_WAYS = 8


def inputs_for(k, many):
    """List the inputs by which a part chooses the way k out of so many."""
    if many == 1:
        return []
    if many <= MOST_WAYS or k < MOST_WAYS - 1:
        return [k]
    return [MOST_WAYS - 1] + inputs_for(k - MOST_WAYS + 1, many - MOST_WAYS + 1)


class Trails:
    """Trails of inputs, known by numbers: a trail is a tuple of inputs, or it is made of two, one behind the other."""

    def __init__(self):
        self.told = [("inputs",)]
        self.known = {("inputs",): 0}

    def of(self, inputs):
        """Give the number of the trail of some inputs."""
        return self._put(("inputs",) + tuple(inputs))

    def both(self, one, other):
        """Give the number of two trails one behind the other."""
        if one == 0 or other == 0:
            return one + other
        return self._put(("both", one, other))

    def _put(self, key):
        if key not in self.known:
            self.known[key] = len(self.told)
            self.told.append(key)
        return self.known[key]

    def inputs_of(self, number):
        """List the inputs of a trail."""
        found = []
        todo = [number]
        while todo:
            trail = self.told[todo.pop()]
            if trail[0] == "both":
                todo.extend([trail[2], trail[1]])
            else:
                found.extend(trail[1:])
        return found


def _choice_of(ways, x):
    """Give an expression that does one of these expressions, as an input tells; x is a name for that."""
    if len(ways) == 1:
        return ways[0]
    first = ("less", ASK, ("number", 1))
    if len(ways) == 2:
        return first if ways == [YES, NO] else ("if", first, ways[0], ways[1])
    if len(ways) > MOST_WAYS:
        ways = ways[:MOST_WAYS - 1] + [_choice_of(ways[MOST_WAYS - 1:], x)]
    e = ways[-1]
    for k in range(len(ways) - 2, -1, -1):
        e = ("if", ("less", ("name", x), ("number", k + 1)), ways[k], e)
    return ("let", x, ASK, e)


def _truths_in(kind, e):
    """List expressions for the truths in what an expression of a kind comes to, from left to right."""
    if kind[0] == "pair":
        return _truths_in(kind[1], ("first", e)) + _truths_in(kind[2], ("second", e))
    return [e] if kind[0] == "truth" else []


def valuations_of(form, place):
    """List all tuples of pairs (name place, dim worth) that can be seen at a place that stands, unknowns as numbers."""
    found = [()]
    for at in form.seen[place]:
        dims = dims_of(numbered(form.names[at]))
        found = [seen + ((at, dim),) for seen in found for dim in dims]
    return found


def spots_of(form, lot):
    """Give the dict from spots to the lists of what a lot, told by indexes, has there."""
    found = {}
    for at in lot:
        place, seen, what = form.things[at]
        found.setdefault(spot_of(form, place, seen), []).append(what)
    return found


def spot_of(form, place, seen):
    """Give what places with what is seen there are known by, unknowns being taken as numbers."""
    return form.order[place], tuple([dim_rank(numbered(dim)) for _, dim in seen])


class Acting:
    """The parts of a use of a form that keep to a lot, and do at least what a need has; both are told by spots."""

    def __init__(self, form, need, lot):
        self.form = form
        self.need = need
        self.lot = lot
        words = free_names({}, len(form.names) + 1)
        self.names = {at: x for at, x in zip(form.names, words)}
        self.chosen = words[-1]
        self.fault = free_names({fault: True for fault in form.whats.faults}, 1)[0]

    def use(self):
        """Give the use of the form with these parts."""
        parts = {place: self.part(place) for place in self.form.kinds}
        nodes = [node for _, node in nodes_of(self.form.shelf.open_use(self.form.pair))]
        return assembled(nodes, self.names, parts)

    def inputs(self, thing):
        """List the inputs by which a part does a thing of the need."""
        place, seen, what = thing
        ways = self.need[spot_of(self.form, place, seen)]
        return inputs_for(ways.index(what), len(ways))

    def part(self, place):
        """Give the part for a place."""
        if self.form.seen[place] is None:
            return NUMBER_0
        tests = []
        for at in self.form.seen[place]:
            tests.extend(_truths_in(numbered(self.form.names[at]), ("name", self.names[at])))
        level = [self._acts(spot_of(self.form, place, seen)) for seen in valuations_of(self.form, place)]
        for test in tests[::-1]:
            level = [_tested(test, yes, no) for yes, no in zip(level[::2], level[1::2])]
        return level[0][0]

    def _acts(self, spot):
        """List expressions, any one of which may be done at a spot."""
        if spot in self.need:
            return [_choice_of([self._act(what, spot) for what in self.need[spot]], self.chosen)]
        return self._ends_at(spot)

    def _ends_at(self, spot):
        """List expressions by which a doing may end at a spot, or go on for ever, as the lot lets it."""
        return [self._end(what) for what in self._ends(spot) or [ENDLESS]]

    def _ends(self, spot):
        return [what for what in self.lot.get(spot, []) if what[0] in ("ends", "fails", "endless")]

    def _end(self, what):
        """Give an expression that ends so, or goes on for ever."""
        if what[0] == "ends":
            return _worth_of(what[1])
        if what[0] == "fails":
            return ("fail", self.fault if what[1] is None else what[1])
        return LOOP

    def _act(self, what, spot):
        """Give an expression, as small as can be, that comes to a what, and then to an end that the lot lets."""
        ends = self._ends(spot)
        if what in ends:
            return self._end(what)
        worths = [_worth_of(end[1]) for end in ends if end[0] == "ends"]
        if what[0] == "shows" and worths:
            return ("show", worths[0])
        items = {"reads": ("get",) + what[1:], "sets": ("set",) + what[1:] + (NUMBER_0,), "shows": ("show", NUMBER_0)}
        item = items[what[0]]
        if not ends:
            return ("while", YES, item)
        return item if NUMBER_0 in worths else ("then", item, self._end(ends[0]))


def _worth_of(dim):
    """Give an expression that comes to a dim worth, numbers and unknowns being 0."""
    if dim[0] == "pair":
        first = _worth_of(dim[1])
        return ("pair", first, _worth_of(dim[2]))
    return dim if dim in (YES, NO) else NUMBER_0


def _tested(test, yes, no):
    """List expressions that may be done, the test telling which of two lists is due; one in both needs no test."""
    both = [e for e in yes if e in no]
    return both if both else [("if", test, yes[0], no[0])]
