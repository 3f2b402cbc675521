"""Scripts: what a form does, as numbered nodes that know which names they need."""

from formrules.expanding import Writer
from formrules.shapes import IN_LET, kids, nodes_of, use_names, use_parts

PLACES = ("part", "here")


class Script:
    """The nodes of an expression with places as leaves, in order, each ahead of its parts.

    parts tells for each node the numbers of its parts; needs the names that are read in it, name
    places among them, as each place that is done shows what is let for these; ways tells for each of
    its parts where what this needs is among what the node needs, None for the name of a let.
    """

    def __init__(self, nodes, names, settled):
        self.nodes = [("name", node) if node in settled else node for node in nodes]
        self.names = list(names)
        self.parts = [[] for _ in nodes]
        self.needs = [() for _ in nodes]
        self.ways = [[] for _ in nodes]
        loose = []
        for at in range(len(nodes) - 1, -1, -1):
            self.parts[at] = [loose.pop() for _ in kids(self.nodes[at])]
            loose.append(at)
            self._find_needs(at)

    def _find_needs(self, at):
        node = self.nodes[at]
        bound = [self._bound(node, steps) for steps, _ in kids(node)]
        self.needs[at] = self.needed(at, bound)
        where = {x: k for k, x in enumerate(self.needs[at])}
        for x, part in zip(bound, self.parts[at]):
            self.ways[at].append([None if one == x else where[one] for one in self.needs[part]])

    def needed(self, at, bound):
        """Give the names that a node needs; bound has for each of its parts the name that is let there, or None."""
        node = self.nodes[at]
        if node[0] == "name":
            return (node[1],)
        if node[0] in PLACES:
            return tuple(self.names)
        needs = {}
        for x, part in zip(bound, self.parts[at]):
            needs.update({one: True for one in self.needs[part] if one != x})
        return tuple(needs)

    def _bound(self, node, steps):
        return node[1] if node[0] == "let" and steps == IN_LET else None


def written_script(shelf, pair, settled):
    """Give the script of a form written out with its places as leaves; settled places are read as names."""
    nodes = Writer(shelf).flat(shelf.open_use(pair))
    return Script(nodes, shelf.name_places(pair), {place: True for place in settled})


class UsesScript(Script):
    """The script of an expression or placed template that is not written out, so that own uses stand in it.

    given tells for each own use its names by their places, placed which of its parts is at which place.
    """

    def __init__(self, e, names):
        Script.__init__(self, [node for _, node in nodes_of(e)], names, {})
        self.given = {}
        self.placed = {}
        for at, node in enumerate(self.nodes):
            if node[0] == "own":
                self.given[at] = {place: x for place, _, x in use_names(node)}
                self.placed[at] = {place: k for k, (place, _, _) in enumerate(use_parts(node))}


class SheetScript(UsesScript):
    """The script of a placed template whose own uses are played by sheets.

    sheets tells for each pair (form, rows) its sheet, and the kinds of its part places.
    """

    def __init__(self, e, names, sheets):
        UsesScript.__init__(self, e, names)
        self.sheets = sheets

    def sheet(self, at):
        """Give the pair of the sheet and of the kinds of the part places of an own use."""
        return self.sheets[(self.nodes[at][1], len(self.nodes[at][4]))]
