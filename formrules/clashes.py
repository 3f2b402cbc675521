"""Clashes: least lots of nodes that cannot have kinds together."""

from formrules.guards import are_paths
from formrules.roads import can_be, walk_of
from formrules.shapes import nodes_of


def clash(book, e):
    """Give None if e has a signature, otherwise a least lot of nodes that clash.

    BadBook, BadExpression, TooMany(100), TooMany(1000).
    """
    walk = walk_of(book, e)
    rest = [path for path, _ in nodes_of(e)]
    if can_be(walk, rest):
        return None
    kept = []
    while can_be(walk, kept):
        # The last node of the shortest row that clashes with those kept is one more to keep, and
        # no later one is needed.
        many = _shortest(walk, kept, rest)
        kept.append(rest[many - 1])
        rest = rest[:many - 1]
    return tuple(sorted(kept))


def _shortest(walk, kept, rest):
    """Give how many of the first of rest are needed to clash with those kept."""
    low, high = 0, len(rest)
    while high - low > 1:
        middle = (low + high) // 2
        if can_be(walk, kept + rest[:middle]):
            low = middle
        else:
            high = middle
    return high


def is_clash(book, e, thing):
    """Tell whether any value is a clash of e; the errors of clash."""
    walk = walk_of(book, e)
    if not are_paths(thing) or not all([one < other for one, other in zip(thing, thing[1:])]):
        return False
    paths = {path: True for path, _ in nodes_of(e)}
    if not all([path in paths for path in thing]) or can_be(walk, thing):
        return False
    for at in range(len(thing)):
        if not can_be(walk, thing[:at] + thing[at + 1:]):
            return False
    return True
