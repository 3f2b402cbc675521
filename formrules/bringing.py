"""To what the free runs of an expression come, and which of its nodes bring it."""

from formrules.dims import has_unknowns, is_dim
from formrules.errors import BadExpression, BadGoal, BadNames
from formrules.freeruns import Frame, FreeRuns, Sums
from formrules.guards import need_expression, shelf_of
from formrules.layers import led
from formrules.scripts import UsesScript
from formrules.shapes import nodes_of, thing_at
from formrules.whats import Whats
from formrules.words import is_name

# What stands for the nodes of rules, the number of no node.
OF_RULES = -1


def brings(book, names, e):
    """Give the tuple of all whats to which free runs of e come; BadBook, BadNames, BadExpression."""
    shelf = shelf_for_names(book, names, e)
    return Bringing(Whats(book), e, FreeRuns(shelf, Sums())).all_by({x: dim for x, dim in names})


class Bringing:
    """The free runs of an expression."""

    def __init__(self, whats, e, runs):
        self.whats = whats
        self.runs = runs
        self.frame = Frame(UsesScript(e, []), None, True)

    def result(self, names):
        """Give the result where free names say what a dict tells."""
        says = {x: self.runs.dims.put(names[x]) for x in names}
        return self.runs.result(self.frame, tuple([says.get(x) for x in self.frame.script.needs[0]]))

    def told(self, what):
        """Give a what of a result as it is told."""
        return self.whats.told(self.runs.decoded(what))

    def those_told(self, result, what):
        """List the whats of a result that are told as a what."""
        return [one for one in result if self.whats.rank(self.told(one)) == self.whats.rank(what)]

    def all_by(self, names):
        """Give the tuple of all whats that come where free names say what a dict tells."""
        return self.whats.ordered([self.told(what) for what in self.result(names)])


def shelf_for_names(book, names, e):
    """Give the shelf of a book; BadBook, BadNames, BadExpression."""
    shelf = shelf_of(book)
    if not _are_names(names):
        raise BadNames("these are no pairs of names and dim worths")
    need_expression(book, e)
    known = {x: True for x, _ in names}
    found = led(shelf, e)
    if any([None in found[path] and thing_at(e, path) not in known for path in found]):
        raise BadExpression("another name stands free")
    return shelf


def _are_names(thing):
    if not isinstance(thing, tuple) or not all([isinstance(one, tuple) and len(one) == 2 for one in thing]):
        return False
    if not all([is_name(x) and is_dim(dim) and not has_unknowns(dim) for x, dim in thing]):
        return False
    return all([one[0] < other[0] for one, other in zip(thing, thing[1:])])


def roots(book, names, e, goal):
    """Give the ascending tuple of the paths to the nodes that bring a goal; the errors of brings, BadGoal."""
    shelf = shelf_for_names(book, names, e)
    whats = Whats(book)
    if not whats.lets(goal):
        raise BadGoal("this is no what of the book")
    bringing = Bringing(whats, e, FreeRuns(shelf, Roots()))
    result = bringing.result({x: dim for x, dim in names})
    coming = bringing.those_told(result, goal)
    if goal[0] == "ends":
        return ((),) if coming else ()
    paths = [path for path, _ in nodes_of(e)]
    return tuple(sorted({paths[at]: True for what in coming for at in result[what]}))


class Roots(Sums):
    """Sums whose values are the numbers of the nodes that bring something, ascending tuples."""

    def __init__(self):
        Sums.__init__(self)
        self.one = ()

    def plus(self, one, other):
        """Give the nodes that bring it in one way or another one."""
        return tuple(sorted({at: True for at in one + other}))

    def times(self, one, other):
        """Give the nodes that bring it; what only goes ahead brings nothing."""
        return self.plus(one, other)

    def brought(self, frame, at):
        """Give the node itself, or what stands for nodes of rules."""
        return (at,) if frame.top else (OF_RULES,)

    def caught(self, value):
        """Give nothing: a fault that was caught brings nothing any more."""
        return self.one

    def used(self, frame, at, result):
        """Let the own use that the user wrote stand for what came of its rule."""
        if not frame.top:
            return result
        return {what: tuple(sorted([at if one == OF_RULES else one for one in result[what]])) for what in result}
