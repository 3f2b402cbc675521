"""Writing out: how great it would be, and doing it; fresh names are numbers until they are named."""

from formrules.shapes import kids, names_in, nodes_of, assembled, use_names, use_parts
from formrules.shelves import uses_in


class Sizes:
    """Finds how many nodes expressions of a shelf have when they are written out."""

    def __init__(self, shelf):
        self.shelf = shelf
        self.known = {}

    def of(self, e):
        """Give the number of nodes of what an expression is written out to."""
        for pair in self.shelf.needed(uses_in(e)):
            if pair not in self.known:
                self.known[pair] = self._counted(self.shelf.rule(pair))
        return self._counted(e)[0]

    def _counted(self, e):
        """Give the number of nodes of its own, and for each part place how often it is copied."""
        nodes = 0
        copies = {}
        todo = [(e, 1)]
        while todo:
            node, times = todo.pop()
            if node[0] in ("part", "here"):
                copies[node] = copies.get(node, 0) + times
            elif node[0] == "own":
                size, copied = self.known[(node[1], len(node[4]))]
                nodes += times * size
                todo.extend([(part, times * copied.get(place, 0)) for place, _, part in use_parts(node)])
            else:
                nodes += times
                todo.extend([(part, times) for _, part in kids(node)])
        return nodes, copies


class Writer:
    """Writes out own uses, giving numbers as fresh names."""

    def __init__(self, shelf):
        self.shelf = shelf
        self.fresh = 0

    def once(self, use):
        """Give what one own use is written out to in one step."""
        parts = {place: part for place, _, part in use_parts(use)}
        given = {place: x for place, _, x in use_names(use)}
        nodes = []
        for _, node in nodes_of(self.shelf.rule((use[1], len(use[4])))):
            for x in names_in(node):
                if x not in given:
                    self.fresh += 1
                    given[x] = self.fresh
            nodes.append(node)
        return assembled(nodes, given, parts)

    def flat(self, e):
        """List the nodes of what e is written out to, in order; their own parts do not matter."""
        nodes = []
        todo = [e]
        while todo:
            node = todo.pop()
            while node[0] == "own":
                node = self.once(node)
            nodes.append(node)
            todo.extend([part for _, part in kids(node)][::-1])
        return nodes
