"""The weakest signature of an expression, found by schemes alone."""

from formrules.finding import Schemes, need_small
from formrules.guards import shelf_for
from formrules.kindtables import KindReader, KindTable
from formrules.shapes import nodes_of, use_parts
from formrules.solving import Solution
from formrules.walks import Walk


def signature_of(book, e):
    """Give the weakest signature of what e is written out to, None without one.

    BadBook, BadExpression, TooMany(100).
    """
    schemes = Schemes(shelf_for(book, e)).for_uses(e)
    table = KindTable()
    found = _found(schemes, table, e)
    if found is None:
        return None
    names, kinds = found
    need_small(table, kinds)
    told = table.told(kinds)
    return tuple([(x, kind) for x, kind in zip(names, told)]), told[-1]


def kind_of(book, e):
    """Give the kind in the weakest signature, None without one; the errors of signature_of."""
    found = signature_of(book, e)
    return None if found is None else found[1]


def _found(schemes, table, e):
    """Give the pair (names, kinds) of e in a table, the kinds of the names and then of the whole.

    A part of a use has one weakest signature, of which each of its seats takes one filling. So
    the innermost uses come first, and no part is looked at more than once, on however many roads.
    """
    found = {}
    for path, node in nodes_of(e)[::-1]:
        if node[0] == "own":
            told = schemes[(node[1], len(node[4]))]
            seated = {} if told is None else {place: True for place, _, _ in told[1]}
            for place, steps, part in use_parts(node):
                if place in seated:
                    found[path + steps] = _weakest(schemes, table, found, part, path + steps)
    return _weakest(schemes, table, found, e, ())


def _weakest(schemes, table, found, e, path):
    walk = PartWalk(schemes, table, found)
    top = walk.go(e, path, {})
    solution = Solution(walk.nodes.shapes, [(one, other) for _, one, other in walk.equal])
    if walk.lost or not solution.sound:
        return None
    reader = KindReader(solution, table)
    names = sorted(walk.free)
    return names, [reader.read(walk.free[x]) for x in names] + [reader.read(top)]


class PartWalk(Walk):
    """A walk that takes the parts of own uses as already found, by their paths."""

    def __init__(self, schemes, table, found):
        Walk.__init__(self, schemes)
        self.table = table
        self.found = found

    def in_use(self, task):
        """Gather what an own use asks, each seat of a part taking one filling of its signature."""
        for _, path, _, names, kind in super().in_use(task):
            if self.found[path] is None:
                self.lost.append(path)
            else:
                xs, kinds = self.found[path]
                planted = self.table.planted(self.nodes, kinds)
                for x, its in zip(xs, planted):
                    self.tie(path, self.kind_of_name(x, names), its)
                self.tie(path, kind, planted[-1])
        return []
