"""Watching a run of an own use: what its rule does by itself, and what its parts come to."""

from formrules.dims import dim_of, dim_rank
from formrules.expanding import Writer
from formrules.machine import Machine
from formrules.seeing import Sights
from formrules.shapes import use_names, use_parts
from formrules.shelves import place_rank


class Watcher(Machine):
    """Runs the rule of a closed own use, and at its places the parts, all of it written out as it is begun.

    own counts the nodes of the rule. doings has for each outcome of a place that came, by keys in order, the
    pair (thing, how often); come what was read, set, shown and asked, by the rule or by a part. Shows are no
    events here: a run that only goes on showing has no end. If patience is not None, the run is given up when
    more uses than that were written out.
    """

    def __init__(self, shelf, whats, use, inputs, patience):
        Machine.__init__(self, whats.cells, inputs, 0)
        pair = (use[1], len(use[4]))
        sights = Sights(shelf).of(pair)
        self.whats = whats
        self.seen = {place: sorted(sights[place][0]) for place in sights if sights[place] is not None}
        self.given = {place: x for place, _, x in use_names(use)}
        self.parts = {place: part for place, _, part in use_parts(use)}
        self.writer = Writer(shelf)
        self.patience = patience
        self.opened = 0
        self.rule = shelf.open_use(pair)
        self.inside = False
        self.own = 0
        self.doings = {}
        self.come = {}

    def tick(self):
        """Count a node of the rule; those of parts are none."""
        if not self.inside:
            self.own += 1

    def note(self, what):
        """Note that a cell was read or set."""
        self.come[what] = True

    def tell(self, event):
        """Note what was asked or shown; only asks are events."""
        if event[0] == "asked":
            self.events.append(event)
        self.come[("asks",) if event[0] == "asked" else ("shows",)] = True

    def enter(self, node, names):
        """Begin what an own use is written out to by one step, or the part of a place."""
        if node[0] == "own":
            self.opened += 1
            if self.patience is not None and self.opened > self.patience:
                self.end = ("more",)
            self.plan("begin", self.writer.once(node), names, None)
        else:
            self._enter_place(node, names)

    def _enter_place(self, place, names):
        """Begin the part of a place, with the worths of the names that it can see there."""
        said = {}
        while names is not None:
            x, worth, names = names
            if isinstance(x, tuple) and x not in said:
                said[x] = worth
        around = None
        for at in said:
            around = (self.given[at], said[at], around)
        self.plan("left", place, None, tuple([(at, dim_of(said[at])) for at in self.seen[place]]))
        self.plan("begin", self.parts[place], around, None)
        self.inside = True

    def leave(self, place, seen, outcome):
        """Count an outcome of a place."""
        self.inside = False
        what = ("ends", dim_of(outcome[1])) if outcome[0] == "ends" else self.whats.told(outcome)
        key = (place_rank(place), tuple([dim_rank(dim) for _, dim in seen]), self.whats.rank(what))
        _, many = self.doings.get(key, (None, 0))
        self.doings[key] = ((place, seen, what), many + 1)
