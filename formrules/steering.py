"""Ways: real runs of uses whose parts keep to a lot, steered by inputs to a goal."""

from formrules.acting import ENDLESS, Acting, Trails, spot_of, spots_of, valuations_of
from formrules.books import is_core, is_expression_of
from formrules.bringing import Bringing
from formrules.closed import is_closed_on
from formrules.dims import dim_of, dims_of, numbered
from formrules.errors import BadGoal
from formrules.expanding import Sizes
from formrules.freeforms import FreeForm, SomePlaces
from formrules.freeruns import FreeRuns, Sums
from formrules.running import are_inputs
from formrules.shapes import use_names, use_parts
from formrules.thinglots import needs_of
from formrules.watching import Watcher
from formrules.writing import MOST_NODES

MOST_INPUTS = 200
# So many uses are written out in the run of one that is greater than what is run as a rule.
PATIENCE = 300000
ASKS = ("asks",)


def way(book, name, many, lot, goal):
    """Give a pair (use, inputs) whose run comes to a goal, its parts keeping to a lot, None if there is none.

    BadBook, BadForm, BadMany, TooMany(3), TooMany(100), NoPlain, BadLot, BadGoal.
    """
    form = FreeForm(book, name, many)
    let = form.need_lot(lot)
    _need_real_goal(form, goal)
    found = None
    for need in needs_of(form, goal):
        if all([at in let for at in need]):
            use, inputs = _way_by(form, need, let, goal)
            if len(inputs) <= MOST_INPUTS and Sizes(form.shelf).of(use) <= MOST_NODES:
                return use, inputs
            found = found or (use, inputs)
    return found


def _need_real_goal(form, goal):
    form.need_goal(goal)
    if goal in (ENDLESS, ASKS):
        raise BadGoal("no way can show this")


def _way_by(form, need, let, goal):
    """Give a use whose parts do what a need has, and inputs that steer its run to the goal."""
    acting = Acting(form, spots_of(form, need), spots_of(form, let))
    sums = FewestInputs()
    values = {form.key(form.things[at]): sums.doing(acting.inputs(form.things[at])) for at in need}
    runs = FreeRuns(form.shelf, sums)
    result = form.result(runs, SomePlaces(form, runs, values))
    return acting.use(), sums.trails.inputs_of(result[runs.coded(goal)][1])


class FewestInputs(Sums):
    """Sums whose values are pairs (number of inputs, number of a trail): the fewest inputs to come there."""

    def __init__(self):
        Sums.__init__(self)
        self.one = (0, 0)
        self.trails = Trails()

    def plus(self, one, other):
        """Give the way with fewer inputs."""
        return one if one[0] <= other[0] else other

    def times(self, one, other):
        """Give both ways one behind the other."""
        if one == self.one or other == self.one:
            return other if one == self.one else one
        return one[0] + other[0], self.trails.both(one[1], other[1])

    def asked(self):
        """Give the value of an ask of a rule: any input will do."""
        return self.doing([0])

    def doing(self, inputs):
        """Give the value of a doing that takes these inputs."""
        return len(inputs), self.trails.of(inputs)


def is_way(book, name, many, lot, goal, thing):
    """Tell whether any value is a way for a lot and a goal; the errors of way."""
    form = FreeForm(book, name, many)
    let = form.need_lot(lot)
    _need_real_goal(form, goal)
    if not isinstance(thing, tuple) or len(thing) != 2 or not is_expression_of(book, thing[0]):
        return False
    use, inputs = thing
    if use[:2] != ("own", name) or len(use[4]) != many or not are_inputs(inputs):
        return False
    parts = {place: part for place, _, part in use_parts(use)}
    if not all([is_core(part) for part in parts.values()]) or not is_closed_on(form.shelf, use):
        return False
    names = {at: x for at, _, x in use_names(use)}
    spots = spots_of(form, let)
    if not all([_keeps_to(form, spots, place, parts[place], names) for place in parts]):
        return False
    return _comes(form, use, inputs, goal)


def _keeps_to(form, spots, place, part, names):
    """Tell whether a part keeps to a lot, told by spots, at a place with whatever is seen there."""
    if form.seen[place] is None:
        return True
    bringing = Bringing(form.whats, part, FreeRuns(form.shelf, Sums()))
    for seen in valuations_of(form, place):
        there = spots.get(spot_of(form, place, seen), [])
        let = [("ends", numbered(what[1])) if what[0] == "ends" else what for what in there]
        if not any([what[0] in ("ends", "fails", "endless") for what in let]):
            let.append(ENDLESS)
        if not all([what in let or what == ASKS for what in bringing.all_by({names[at]: dim for at, dim in seen})]):
            return False
    return True


def _comes(form, use, inputs, goal):
    """Tell whether the run of a use comes to a goal, numbers being forgotten."""
    patience = None if Sizes(form.shelf).of(use) <= MOST_NODES else PATIENCE
    watcher = Watcher(form.shelf, form.whats, use, inputs, patience)
    watcher.work(watcher.rule)
    end = watcher.end
    if goal[0] == "ends":
        return goal[1] in dims_of(form.whole) and end[0] == "ends" and dim_of(end[1]) == numbered(goal[1])
    if goal[0] == "fails":
        return end[0] == "fails" and form.whats.told(end) == goal
    return goal in watcher.come
