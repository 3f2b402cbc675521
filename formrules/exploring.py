"""Exploring what a script does behind all answers, as rows that standings come to.

The things of a standing are numbered as they stand in it. So those that differ in numbers alone are one
row, and there are finitely many. Rows are told as sheets tell them.
"""

from formrules.merging import ons_of
from formrules.places import outcomes_from, things_of
from formrules.players import Player, words_of_terms

NUMBER = ("number",)
# So many rows are found before it is asked whether they are too many; then four times as many.
FIRST_WATCH = 1000
WORDS = {
    "give": 0, "begin": 1, "row": 2, "let": 3, "second": 4, "pair": 5, "one": 6, "if": 7, "test": 8, "body": 9,
    "catch": 10, "use": 11, "asking": 12,
}


class Explorer:
    """The rows of a script, each found when it is asked for.

    kinds tells the kind of each part place; bound what it does not do: some of "fails" and "sets".
    """

    def __init__(self, script, cells, kinds, bound):
        self.script = script
        self.cells = cells
        self.kinds = kinds
        self.bound = bound
        self.rows = []
        self.states = []
        self.known = {}

    def start(self, says, kinds):
        """Give the on of the first row: cells hold the first things, says tells what some names say.

        kinds lists the kinds of the things that stand in says; these come behind those of the cells.
        """
        terms = [says.get(x) for x in self.script.needs[0]]
        held = [("thing", at) for at in range(len(self.cells))]
        return self._on([("begin", 0, tuple(terms), 0)], held, [NUMBER] * len(held) + list(kinds))

    def row(self, at):
        """Give a row: the kinds of its things, and what comes."""
        if self.rows[at] is None:
            self.rows[at] = self._found(at)
        return self.rows[at]

    def _on(self, frames, held, kinds):
        """Give the on of the row for a standing whose things have these kinds."""
        order = {}
        renamed = [(word, node, tuple([_renamed(term, order) for term in terms]), row)
                   for word, node, terms, row in frames]
        holding = [_renamed(term, order) for term in held]
        words = []
        for word, node, terms, row in renamed:
            words.extend([WORDS[word], node, row] + words_of_terms(terms))
        words.extend(words_of_terms(holding))
        own = tuple([kinds[thing] for thing in order])
        for kind in own:
            words.append(kind[1] if kind[0] == "any" else None)
        return self._numbered(tuple(words), None, (renamed, holding, own)), tuple(order)

    def _numbered(self, key, row, state):
        """Give the number of the row with a key; a new one has this row, if it is known, and this state."""
        if key not in self.known:
            self.known[key] = len(self.rows)
            self.rows.append(row)
            self.states.append(state)
        return self.known[key]

    def _found(self, at):
        frames, held, kinds = self.states[at]
        player = Player(self.script, self.cells, frames, held)
        what = player.go()
        if what[0] == "does":
            ons = [self._behind(player, what, kinds, k) for k in range(len(outcomes_from(self.kinds[what[1]], 0)))]
            faults = [] if "fails" in self.bound.get(what[1], ()) else player.faults()
            catches = [(fault, self._behind_fault(player, what, kinds, fault)) for fault in faults]
            what = what + (tuple(ons), tuple(catches))
        elif what[0] == "shows":
            what = what + (self._on(player.frames, player.held, kinds),)
        elif what[0] == "asks":
            player.give(("thing", len(kinds)))
            what = what + (self._on(player.frames, player.held, list(kinds) + [NUMBER]),)
        return kinds, what

    def _behind(self, player, what, kinds, k):
        """Give the on behind the outcome k of a place."""
        kind = self.kinds[what[1]]
        new = list(kinds) + things_of(kind)
        behind = self._left(player, what, new)
        behind.give(outcomes_from(kind, len(kinds))[k])
        return self._on(behind.frames, behind.held, new + [NUMBER] * len(self.cells))

    def _behind_fault(self, player, what, kinds, fault):
        """Give the on behind a fault of a place that is caught."""
        behind = self._left(player, what, kinds)
        behind.fail(fault)
        return self._on(behind.frames, behind.held, list(kinds) + [NUMBER] * len(self.cells))

    def _left(self, player, what, kinds):
        """Give a player behind a place; its cells hold new things, behind those of these kinds, if it sets freely."""
        held = what[3]
        if "sets" not in self.bound.get(what[1], ()):
            held = [("thing", len(kinds) + at) for at in range(len(self.cells))]
        return Player(self.script, self.cells, player.frames, held)

    def failing(self, at, fault):
        """Give the on behind a fault of the place that a row does."""
        kinds, what = self.row(at)
        for one, on in what[5]:
            if one == fault:
                return on
        order = {}
        left = self._left(Player(self.script, self.cells, [], []), what, kinds)
        held = tuple([_renamed(term, order) for term in left.held])
        key = ("fails", fault) + tuple(words_of_terms(held))
        return self._numbered(key, ((NUMBER,) * len(order), ("fails", fault, held)), None), tuple(order)

    def all_rows(self, start, watch):
        """List all rows, from one on; watch is told the rows found so far, None for those not looked into."""
        todo = [start]
        seen = {start: True}
        due = FIRST_WATCH
        while todo:
            at = todo.pop()
            for row, _ in ons_of(self.row(at)[1]):
                if row not in seen:
                    seen[row] = True
                    todo.append(row)
            if len(self.rows) > due:
                watch(self.rows)
                due *= 4
        return [self.row(at) for at in range(len(self.rows))]


def _renamed(term, order):
    """Give a term with its things numbered by a dict, which gets the new ones."""
    if term is None:
        return None
    if term[0] == "pair":
        first = _renamed(term[1], order)
        return ("pair", first, _renamed(term[2], order))
    return ("thing", order.setdefault(term[1], len(order))) if term[0] == "thing" else term
