"""Walks through expressions and templates that gather which kinds must be equal, node by node."""

from formrules.shapes import IN_LET, kids, use_names, use_parts
from formrules.solving import KindNodes

# For each head: what is asked of the node, and of each of its parts: a number, a truth, the kind
# of the node, or nothing. More is asked of names and pairs.
ASKED = {
    "number": ("number",),
    "truth": ("truth",),
    "name": ("any",),
    "let": ("any", "any", "whole"),
    "pair": ("any", "any", "any"),
    "first": ("any", "any"),
    "second": ("any", "any"),
    "plus": ("number", "number", "number"),
    "less": ("truth", "number", "number"),
    "if": ("any", "truth", "whole", "whole"),
    "while": ("number", "truth", "any"),
    "then": ("any", "any", "whole"),
    "get": ("number",),
    "set": ("number", "number"),
    "show": ("any", "whole"),
    "ask": ("number",),
    "fail": ("any",),
    "catch": ("any", "whole", "whole"),
}


class Walk:
    """Goes through nodes on all their roads; schemes tells the scheme of each pair (form, rows).

    equal gathers (path, node, node): what the node of an expression at this path asks to be equal.
    lost gathers the paths of own uses that have no scheme. A task is a tuple: a node, its path and
    road, the dict of the kinds of the names let around it, and the node of its kind.
    """

    def __init__(self, schemes):
        self.schemes = schemes
        self.nodes = KindNodes()
        self.equal = []
        self.lost = []
        self.free = {}
        self.labels = {}
        self.seats = []

    def go(self, e, path, names):
        """Walk through e at a path, with the kinds of names around it; give the node of its kind."""
        top = self.nodes.unknown()
        todo = [(e, path, (), names, top)]
        while todo:
            task = todo.pop()
            todo.extend(self._visited(task)[::-1])
        return top

    def _visited(self, task):
        """Gather what a node asks, and list the tasks of its parts."""
        node, path, road, names, kind = task
        self.labels[(path, road)] = kind
        if node[0] in ("part", "here"):
            self.seats.append((node, seen_in(names), kind))
            return []
        if node[0] == "own":
            return self.in_use(task)
        below = [(part, path + steps, road, names, self.nodes.unknown()) for steps, part in kids(node)]
        parts = [one[4] for one in below]
        for word, one in zip(ASKED[node[0]], [kind] + parts):
            self._ask(path, one, word, kind)
        if node[0] == "let":
            inner = with_names(names, [(node[1], self.named(path, parts[0]))])
            below = [one[:3] + (inner, one[4]) if one[1] == path + IN_LET else one for one in below]
        elif node[0] == "name":
            self.tie(path, kind, self.kind_of_name(node[1], names))
        elif node[0] in ("pair", "first", "second"):
            self._ask_pair(path, node[0], kind, parts)
        return below

    def tie(self, path, one, other):
        """Note that the node at a path asks two kinds to be equal."""
        self.equal.append((path, one, other))

    def named(self, path, kind):
        """Give the kind of a name of the node at a path, which asks it to be this one."""
        name = self.nodes.unknown()
        self.tie(path, name, kind)
        return name

    def kind_of_name(self, x, names):
        """Give the kind of a name: that of the nearest let, otherwise one for all free ones."""
        if x in names:
            return names[x]
        if x not in self.free:
            self.free[x] = self.nodes.unknown()
        return self.free[x]

    def _ask(self, path, one, word, kind):
        if word == "number":
            self.tie(path, one, self.nodes.number())
        elif word == "truth":
            self.tie(path, one, self.nodes.truth())
        elif word == "whole":
            self.tie(path, one, kind)

    def _ask_pair(self, path, head, kind, parts):
        if head == "pair":
            self.tie(path, kind, self.nodes.pair(parts[0], parts[1]))
        elif head == "first":
            self.tie(path, parts[0], self.nodes.pair(kind, self.nodes.unknown()))
        else:
            self.tie(path, parts[0], self.nodes.pair(self.nodes.unknown(), kind))

    def in_use(self, task):
        """Gather what an own use asks, and list the tasks of its parts, once for each seat."""
        use, path, road, names, kind = task
        told = self.schemes[(use[1], len(use[4]))]
        if told is None:
            self.lost.append(path)
            return []
        unknowns = {}
        given = {place: x for place, _, x in use_names(use)}
        parts = {place: (steps, part) for place, steps, part in use_parts(use)}
        below = []
        for at, (place, seen, part_kind) in enumerate(told[1]):
            kinds = [(given[one], self.named(path, self.nodes.put(its, unknowns))) for one, its in seen]
            part = self.named(path, self.nodes.put(part_kind, unknowns))
            steps, e = parts[place]
            below.append((e, path + steps, road + (at,), with_names(names, kinds), part))
        self.tie(path, kind, self.nodes.put(told[2], unknowns))
        return below


def with_names(names, kinds):
    """Give a new dict of names in which these have other kinds."""
    inner = {x: kind for x, kind in names.items()}
    for x, kind in kinds:
        inner[x] = kind
    return inner


def seen_in(names):
    """List the name places among names, ascending, with their kinds."""
    return [(place, names[place]) for place in sorted([x for x in names if isinstance(x, tuple)])]
