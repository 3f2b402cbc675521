"""Bars: what all nodes of a rule come to at most under a lot, so that a goal never comes."""

from formrules.dims import is_dim
from formrules.freeforms import FreeForm, SomePlaces
from formrules.freeruns import Frame, FreeRuns, Sums
from formrules.guards import is_path
from formrules.scripts import UsesScript
from formrules.shapes import names_in, nodes_of
from formrules.terms import headed, is_below
from formrules.words import is_name


def bar(book, name, many, lot, goal):
    """Give None if a goal comes under a lot, otherwise a tuple of rows that show that it never does.

    BadBook, BadForm, BadMany, TooMany(3), TooMany(100), NoPlain, BadLot, BadGoal.
    """
    form = FreeForm(book, name, many)
    told = Rows(form, form.need_lot(lot), [])
    form.need_goal(goal)
    rows = told.all_rows()
    return None if goal in rows[0][2] else rows


def is_bar(book, name, many, lot, goal, thing):
    """Tell whether any value is a bar for a lot and a goal; the errors of bar."""
    form = FreeForm(book, name, many)
    let = form.need_lot(lot)
    form.need_goal(goal)
    if not isinstance(thing, tuple) or not all([_is_row(form, row) for row in thing]):
        return False
    told = Rows(form, let, [x for _, names, _ in thing for x, _ in names])
    return told.put(thing) and told.bars(goal) and told.holds()


def _is_row(form, thing):
    """Tell whether any value is a row, by its form."""
    if not isinstance(thing, tuple) or len(thing) != 3 or not is_path(thing[0]):
        return False
    _, names, whats = thing
    if not isinstance(names, tuple) or not isinstance(whats, tuple):
        return False
    if not all([isinstance(one, tuple) and len(one) == 2 and is_dim(one[1]) for one in names]):
        return False
    if not all([is_name(x) or _is_name_place(form, x) for x, _ in names]):
        return False
    ranks = [_name_rank(x) for x, _ in names]
    return _are_ascending(ranks) and all([form.whats.lets(what) for what in whats]) and _are_ascending(
        [form.whats.rank(what) for what in whats])


def _are_ascending(ranks):
    return all([one < other for one, other in zip(ranks, ranks[1:])])


def _is_name_place(form, thing):
    """Tell whether any value is a name place as the rule at work may write it."""
    if headed(thing) not in ("bind", "row") or len(thing) != 2:
        return False
    _, _, binds, _, row, _ = form.shelf.forms[form.pair[0]]
    if thing[0] == "bind":
        return is_below(thing[1], binds)
    return form.pair[1] > 0 and is_below(thing[1], row[0])


def _name_rank(x):
    """Give what names are to be sorted by: names, then ("bind", j), then ("row", j)."""
    if isinstance(x, str):
        return 0, x
    return (1 if x[0] == "bind" else 2), x[1]


class FullScript(UsesScript):
    """A script in which each node needs all names, whether or not they are read in it."""

    def needed(self, at, bound):
        """Give the names that a node needs."""
        return tuple(self.names)


class Rows:
    """The rows of a form's rule under a lot, told by the indexes of its things.

    others lists names that rows may have though they stand nowhere in the rule. A node is known by its number
    in the script, -1 telling one within rest, which is a leaf of the rule.
    """

    def __init__(self, form, lot, others):
        self.form = form
        _, _, _, _, _, rules = form.shelf.forms[form.pair[0]]
        written = rules[0 if form.pair[1] == 0 else 1]
        placed = form.shelf.rule(form.pair)
        paths = [path for path, _ in nodes_of(written)]
        self.paths = [path if path in paths else None for path, _ in nodes_of(placed)]
        # Name places come in their order, as all that is told of what is seen goes by it.
        names = {x: True for x in form.names}
        names.update({self._placed(x): True for x in others})
        for _, node in nodes_of(placed):
            names.update({x: True for x in names_in(node)})
        self.runs = FreeRuns(form.shelf, Sums())
        values = {form.key(form.things[at]): True for at in lot}
        places = SomePlaces(form, self.runs, values)
        self.frame = Frame(FullScript(placed, list(names)), places, True)

    def _placed(self, x):
        """Give a name as the placed rule tells it."""
        return ("row", 0, x[1]) if x[0] == "row" else x

    def _written(self, x):
        """Give a name as the rule tells it."""
        return ("row", x[2]) if x[0] == "row" else x

    def all_rows(self):
        """Give the tuple of all rows, each with just what comes, by paths; that of the rule itself is the first."""
        self.runs.work(self.frame, 0, self.frame.unsaid())
        rows = []
        for (at, says), number in self.frame.known.items():
            if self.paths[at] is not None:
                whats = [self.form.whats.told(self.runs.decoded(what)) for what in self.runs.results[number]]
                rows.append((self.paths[at], self._names(says), self.form.whats.ordered(whats)))
        return tuple(sorted(rows, key=lambda row: (row[0], repr(row[1]))))

    def _names(self, says):
        """Give the tuple of pairs (name, dim worth) for what names say, as a row tells them."""
        said = [(self._written(x), self.runs.dims.told[dim])
                for x, dim in zip(self.frame.script.names, says) if dim is not None]
        return tuple(sorted(said, key=lambda one: _name_rank(one[0])))

    def put(self, rows):
        """Take rows as what is known; tell whether they are of nodes, and no two with the same two first items."""
        at_path = {path: at for at, path in enumerate(self.paths) if path is not None}
        for path, names, whats in rows:
            said = {self._placed(x): self.runs.dims.put(dim) for x, dim in names}
            key = (at_path.get(path), tuple([said.get(x) for x in self.frame.script.names]))
            if key[0] is None or key in self.frame.known:
                return False
            self.frame.known[key] = self.runs.numbered({self.runs.coded(what): True for what in whats})
        return True

    def bars(self, goal):
        """Tell whether there is a row for the rule itself, and the goal is not in it."""
        key = (0, self.frame.unsaid())
        return key in self.frame.known and self.runs.coded(goal) not in self.runs.results[self.frame.known[key]]

    def holds(self):
        """Tell whether each row has, at least, all that comes if its parts come just to what their rows tell."""
        for at, says in list(self.frame.known):
            found = self._found(at, says)
            if found is None:
                return False
            told = self.runs.results[self.frame.known[(at, says)]]
            if not all([what in told for what in found]):
                return False
        return True

    def _found(self, at, says):
        """Give what a node comes to by the rows of its parts, None if one of these rows is missing."""
        found = self.runs.found(self.frame, at, says)
        while found is None:
            frame, part, inner = self.runs.due
            if frame.top and self.paths[part] is not None:
                return None
            self.runs.work(frame, part, inner)
            found = self.runs.found(self.frame, at, says)
        return found
