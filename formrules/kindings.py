"""Kindings: the kinds of all nodes of an expression, on all roads."""

from formrules.guards import is_path
from formrules.kindtables import KindReader, KindTable, need_small
from formrules.roads import solution_of, walk_of
from formrules.signatures import is_signature
from formrules.terms import headed, is_kind


def kinding(book, e):
    """Give the weakest kinding of e, None without one.

    BadBook, BadExpression, TooMany(100) for schemes, TooMany(1000), TooMany(100) for great kinds.
    """
    walk = walk_of(book, e)
    solution = solution_of(walk, [])
    if walk.lost or not solution.sound:
        return None
    table = KindTable()
    reader = KindReader(solution, table)
    names, ways = sorted(walk.free), sorted(walk.labels)
    kinds = [reader.read(walk.free[x]) for x in names] + [reader.read(walk.labels[way]) for way in ways]
    need_small(table, kinds)
    told = table.told(kinds)
    labels = [(path, road, kind) for (path, road), kind in zip(ways, told[len(names):])]
    return ("kinding", tuple([(x, kind) for x, kind in zip(names, told)]), tuple(labels))


def is_kinding(book, e, thing):
    """Tell whether any value is a kinding of e; BadBook, BadExpression, TooMany(100), TooMany(1000)."""
    walk = walk_of(book, e)
    if walk.lost or headed(thing) != "kinding" or len(thing) != 3:
        return False
    names, labels = thing[1:]
    # A signature has names just as a kinding has.
    if not is_signature((names, ("number",))) or not _are_labels(labels):
        return False
    if [(path, road) for path, road, _ in labels] != sorted(walk.labels):
        return False
    kinds = {x: kind for x, kind in names}
    if not all([x in kinds for x in walk.free]):
        return False
    fixed = [(walk.free[x], walk.nodes.put_fixed(kinds[x])) for x in walk.free]
    fixed.extend([(walk.labels[(path, road)], walk.nodes.put_fixed(kind)) for path, road, kind in labels])
    return solution_of(walk, fixed).sound


def _are_labels(thing):
    if not isinstance(thing, tuple) or not all([isinstance(one, tuple) and len(one) == 3 for one in thing]):
        return False
    return all([is_path(path) and is_path(road) and is_kind(kind) for path, road, kind in thing])
