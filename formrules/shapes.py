"""What stands where in a node: parts, names and own uses, for expressions and templates alike."""

# For each head of core: what its items behind the head are. "part" is a part, "bound" the
# name of a let, "read" a name that is read; the rest is neither walked into nor renamed.
FIELDS = {
    "number": ("figure",),
    "truth": ("word",),
    "name": ("read",),
    "let": ("bound", "part", "part"),
    "pair": ("part", "part"),
    "first": ("part",),
    "second": ("part",),
    "plus": ("part", "part"),
    "less": ("part", "part"),
    "if": ("part", "part", "part"),
    "while": ("part", "part"),
    "then": ("part", "part"),
    "get": ("cell",),
    "set": ("cell", "part"),
    "show": ("part",),
    "ask": (),
    "fail": ("fault",),
    "catch": ("fault", "part", "part"),
}
# The steps to the part of a let in which its name can be read.
IN_LET = (3,)


def use_parts(use):
    """List (place, steps, part) for all parts of an own use, in the order of the node."""
    found = [(("part", i), (3, i), part) for i, part in enumerate(use[3])]
    for k, row in enumerate(use[4]):
        found.extend([(("here", k, i), (4, k, 1, i), part) for i, part in enumerate(row[1])])
    return found


def use_names(use):
    """List (place, steps, name) for all names of an own use, in the order of the node."""
    found = [(("bind", j), (2, j), x) for j, x in enumerate(use[2])]
    for k, row in enumerate(use[4]):
        found.extend([(("row", k, j), (4, k, 0, j), x) for j, x in enumerate(row[0])])
    return found


def kids(node):
    """List (steps, part) for all parts of a node, from left to right; leaves of templates have none."""
    if node[0] == "own":
        return [(steps, part) for _, steps, part in use_parts(node)]
    fields = FIELDS.get(node[0], ())
    return [((at,), node[at]) for at, field in enumerate(fields, start=1) if field == "part"]


def nodes_of(e):
    """List (path, node) for all nodes of e in order, each ahead of its parts."""
    found = []
    todo = [((), e)]
    while todo:
        path, node = todo.pop()
        found.append((path, node))
        below = [(path + steps, part) for steps, part in kids(node)]
        todo.extend(below[::-1])
    return found


def own_uses(e):
    """List the own uses of e in order, each ahead of its parts."""
    return [node for _, node in nodes_of(e) if node[0] == "own"]


def thing_at(thing, path):
    """Give what stands at a path."""
    for at in path:
        thing = thing[at]
    return thing


def with_thing_at(thing, path, new):
    """Give thing, with new for what stands at the path."""
    around = []
    for at in path:
        around.append((thing, at))
        thing = thing[at]
    for whole, at in around[::-1]:
        new = whole[:at] + (new,) + whole[at + 1:]
    return new


def names_in(node):
    """List the names that stand at spots of a node itself, in order."""
    if node[0] == "own":
        return [x for _, _, x in use_names(node)]
    return [node[1]] if node[0] in ("let", "name") else []


def refit(node, names, parts):
    """Give a node with these lists of names and parts in the place of its own."""
    if node[0] == "own":
        return _refit_use(node, names, parts)
    items = [node[0]]
    taken = 0
    for at, field in enumerate(FIELDS[node[0]], start=1):
        if field == "part":
            items.append(parts[taken])
            taken += 1
        elif field in ("bound", "read"):
            items.append(names[0])
        else:
            items.append(node[at])
    return tuple(items)


def _refit_use(use, names, parts):
    x, at = len(use[2]), len(use[3])
    rows = []
    for row_names, row_parts in use[4]:
        rows.append((tuple(names[x:x + len(row_names)]), tuple(parts[at:at + len(row_parts)])))
        x += len(row_names)
        at += len(row_parts)
    return ("own", use[1], tuple(names[:len(use[2])]), tuple(parts[:len(use[3])]), tuple(rows))


def assembled(nodes, names, leaves):
    """Give what has these nodes in order, with names and leaves exchanged as the dicts tell.

    What stands in the part places of the nodes that are passed does not matter.
    """
    made = []
    for node in nodes[::-1]:
        if node[0] == "own" or node[0] in FIELDS:
            parts = [made.pop() for _ in kids(node)]
            made.append(refit(node, [names.get(x, x) for x in names_in(node)], parts))
        else:
            made.append(leaves.get(node, node))
    return made[0]
