"""Layers: what stands around a read, and which of its copies each layer leads where."""

from formrules.seeing import Sights
from formrules.shapes import IN_LET, kids, use_names
from formrules.spots import reads_in


def reads_with_layers(shelf, e):
    """List (path, name, layers) for all reads of e that have copies, in order.

    A layer is a pair (path, names) for a let in whose last part the read stands, and for each own
    use around it; layers are told from outside. names has for each name that some copies see
    there the pair (binder, whether all copies see it).
    """
    sights = Sights(shelf)
    found = []
    todo = [((), e, [])]
    while todo:
        path, node, layers = todo.pop()
        if node[0] == "name":
            found.append((path + (1,), node[1], layers))
        elif node[0] == "own":
            todo.extend(_in_use(sights, path, node, layers)[::-1])
        else:
            inner = layers
            if node[0] == "let":
                inner = layers + [(path, {node[1]: (path + (1,), True)})]
            below = [(path + at, part, inner if at == IN_LET else layers) for at, part in kids(node)]
            todo.extend(below[::-1])
    return found


def _in_use(sights, path, use, layers):
    """List (path, part, layers) for the parts of an own use that stand."""
    binder = {x: path + steps for _, steps, x in use_names(use)}
    found = []
    for steps, part, sure, maybe in sights.parts_seen(use):
        names = {x: (binder[x], x in sure) for x in maybe}
        found.append((path + steps, part, layers + [(path, names)]))
    return found


def led(shelf, e):
    """Give the dict, with ascending keys, from all reads of e to the tuple of their binders."""
    found = {path: () for path in reads_in(e)}
    for path, x, layers in reads_with_layers(shelf, e):
        found[path] = _outwards(x, layers)
    return found


def _outwards(x, layers):
    """Give the binders to which copies of a read of x are led, None behind them if some is outside."""
    found = []
    for _, names in layers[::-1]:
        if x in names:
            binder, sure = names[x]
            found.append(binder)
            if sure:
                return tuple(sorted(found))
    return tuple(sorted(found)) + (None,)
