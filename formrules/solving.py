"""Kinds as nodes that are to be equal, and whether they can be."""

NUMBER = ("number",)
TRUTH = ("truth",)


class KindNodes:
    """Nodes, known by their indexes: unknowns (None), and what kinds are made of.

    ("fixed", label) is a kind that nobody fills: it is equal to itself alone.
    """

    def __init__(self):
        self.shapes = [NUMBER, TRUTH]

    def number(self):
        """Give the node of a number."""
        return 0

    def truth(self):
        """Give the node of a truth."""
        return 1

    def made(self, shape):
        """Give a new node of a shape."""
        self.shapes.append(shape)
        return len(self.shapes) - 1

    def unknown(self):
        """Give a new unknown."""
        return self.made(None)

    def pair(self, first, second):
        """Give a new pair of two nodes."""
        return self.made(("pair", first, second))

    def put(self, kind, unknowns):
        """Give the node of a kind, its unknowns being those of a dict, which gets the new ones."""
        if kind[0] == "pair":
            first = self.put(kind[1], unknowns)
            return self.pair(first, self.put(kind[2], unknowns))
        if kind[0] == "any":
            if kind[1] not in unknowns:
                unknowns[kind[1]] = self.unknown()
            return unknowns[kind[1]]
        return self.number() if kind == NUMBER else self.truth()

    def put_fixed(self, kind):
        """Give the node of a kind whose unknowns are not filled."""
        return self.put(kind, {i: self.made(("fixed", i)) for i in unknowns_of(kind)})


def unknowns_of(kind):
    """List the indexes of the unknowns of a kind, as they are met from left to right."""
    found = {}
    todo = [kind]
    while todo:
        one = todo.pop()
        if one[0] == "any":
            found[one[1]] = True
        elif one[0] == "pair":
            todo.extend([one[2], one[1]])
    return list(found)


class Solution:
    """What becomes of nodes if some of them, told by pairs, are made equal."""

    def __init__(self, shapes, equal):
        self.shapes = list(shapes)
        self.up = list(range(len(shapes)))
        self.sound = self._make_all_equal(equal) and self._is_finite()

    def root(self, at):
        """Give the node that stands for all that are equal to this one."""
        while self.up[at] != at:
            self.up[at] = self.up[self.up[at]]
            at = self.up[at]
        return at

    def _make_all_equal(self, equal):
        for one, other in equal:
            if not self._make_equal(one, other):
                return False
        return True

    def _make_equal(self, one, other):
        todo = [(one, other)]
        while todo:
            one, other = todo.pop()
            one, other = self.root(one), self.root(other)
            if one == other:
                continue
            mine, its = self.shapes[one], self.shapes[other]
            if mine is None:
                self.up[one] = other
            elif its is None:
                self.up[other] = one
            elif self.put_off(one, other):
                continue
            elif self.look_into(one) or self.look_into(other):
                todo.append((one, other))
            elif mine[0] == "pair" and its[0] == "pair":
                self.up[one] = other
                todo.extend([(mine[1], its[1]), (mine[2], its[2])])
            elif mine == its:
                self.up[one] = other
            else:
                return False
        return True

    def put_off(self, one, other):
        """Tell whether two roots became one without being looked into; here everything is looked into."""
        return False

    def look_into(self, at):
        """Tell whether a root became plainer by being looked into; here everything is plain."""
        return False

    def below(self, at):
        """List the roots of the halves of a pair; anything else has none."""
        shape = self.shapes[self.root(at)]
        if shape is None or shape[0] != "pair":
            return []
        return [self.root(shape[1]), self.root(shape[2])]

    def _is_finite(self):
        """Tell whether no kind is a part of itself."""
        ended = {}
        for start in range(len(self.up)):
            if not self._ends(self.root(start), ended):
                return False
        return True

    def _ends(self, start, ended):
        begun = {}
        todo = [start]
        while todo:
            at = todo[-1]
            if at in ended:
                todo.pop()
            elif at in begun:
                ended[at] = True
                todo.pop()
            else:
                begun[at] = True
                below = [one for one in self.below(at) if one not in ended]
                if any([one in begun for one in below]):
                    return False
                todo.extend(below)
        return True
