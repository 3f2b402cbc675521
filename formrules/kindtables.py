"""Tables of kinds in which equal kinds have one index, however great they are."""

from formrules.errors import TooMany
from formrules.solving import NUMBER, TRUTH

MOST_SEATS = 100
MOST_IN_KIND = 200


class KindTable:
    """Kinds known by indexes: the halves of a pair have lesser ones. Unknowns have any labels."""

    def __init__(self):
        self.entries = []
        self.sizes = []
        self.known = {}

    def entry(self, key):
        """Give the index of NUMBER, TRUTH, ("any", label) or ("pair", index, index)."""
        if key not in self.known:
            self.known[key] = len(self.entries)
            self.entries.append(key)
            below = [self.sizes[at] for at in key[1:]] if key[0] == "pair" else []
            self.sizes.append(1 + sum(below))
        return self.known[key]

    def below(self, at):
        """List the indexes of the halves of a pair; anything else has none."""
        key = self.entries[at]
        return [key[1], key[2]] if key[0] == "pair" else []

    def within(self, indexes):
        """List the indexes of these kinds and all within them, each once, as they are met."""
        found = {}
        todo = list(indexes)[::-1]
        while todo:
            at = todo.pop()
            if at not in found:
                found[at] = True
                todo.extend(self.below(at)[::-1])
        return list(found)

    def unknowns(self, indexes):
        """List the indexes of the unknowns in these kinds, as they are met from left to right."""
        return [at for at in self.within(indexes) if self.entries[at][0] == "any"]

    def told(self, indexes):
        """List these kinds as tuples, unknowns numbered as they are met."""
        made = {at: ("any", i) for i, at in enumerate(self.unknowns(indexes))}
        for at in sorted(self.within(indexes)):
            if self.entries[at][0] == "pair":
                made[at] = ("pair", made[self.entries[at][1]], made[self.entries[at][2]])
            elif at not in made:
                made[at] = self.entries[at]
        return [made[at] for at in indexes]

    def planted(self, nodes, indexes):
        """List new nodes for these kinds, the same one for the same unknown."""
        made = {}
        for at in sorted(self.within(indexes)):
            key = self.entries[at]
            if key[0] == "pair":
                made[at] = nodes.pair(made[key[1]], made[key[2]])
            elif key[0] == "any":
                made[at] = nodes.unknown()
            else:
                made[at] = nodes.number() if key == NUMBER else nodes.truth()
        return [made[at] for at in indexes]


class KindReader:
    """Reads the nodes of a solution into a table; unknowns are labelled as they are met."""

    def __init__(self, solution, table):
        self.solution = solution
        self.table = table
        self.indexes = {}
        self.labels = 0

    def read(self, node):
        """Give the index of the kind of a node."""
        todo = [node]
        while todo:
            at = self.solution.root(todo[-1])
            due = [one for one in self.solution.below(at) if one not in self.indexes]
            if at in self.indexes or not due:
                self._make(at)
                todo.pop()
            else:
                todo.extend(due[::-1])
        return self.indexes[self.solution.root(node)]

    def _make(self, at):
        if at in self.indexes:
            return
        shape = self.solution.shapes[at]
        if shape is None:
            shape = ("any", self.label())
        elif shape not in (NUMBER, TRUTH):
            shape = ("pair",) + tuple([self.indexes[one] for one in self.solution.below(at)])
        self.indexes[at] = self.table.entry(shape)

    def label(self):
        """Give a new label of an unknown."""
        self.labels += 1
        return self.labels


def need_small(table, indexes):
    """TooMany(100) if one of these kinds has more than 200 nodes."""
    if any([table.sizes[at] > MOST_IN_KIND for at in indexes]):
        raise TooMany(MOST_SEATS)
