"""All that the nodes of an expression ask, road by road, and whether some of it can be had."""

from formrules.errors import TooMany
from formrules.finding import Schemes
from formrules.guards import shelf_for
from formrules.shapes import kids, use_parts
from formrules.solving import Solution
from formrules.walks import Walk

MOST_LABELS = 1000


def walk_of(book, e):
    """Give the walk through e on all roads; BadBook, BadExpression, TooMany(100), TooMany(1000)."""
    schemes = Schemes(shelf_for(book, e)).for_uses(e)
    if _labels_of(schemes, e) > MOST_LABELS:
        raise TooMany(MOST_LABELS)
    walk = Walk(schemes)
    walk.go(e, (), {})
    return walk


def _labels_of(schemes, e):
    """Count the nodes of e, each as often as it has roads."""
    labels = 0
    todo = [(e, 1)]
    while todo:
        node, roads = todo.pop()
        labels += roads
        if node[0] == "own":
            told = schemes[(node[1], len(node[4]))]
            places = [] if told is None else [place for place, _, _ in told[1]]
            todo.extend([(part, roads * places.count(place)) for place, _, part in use_parts(node)])
        else:
            todo.extend([(part, roads) for _, part in kids(node)])
    return labels


def solution_of(walk, more):
    """Give the solution of all that a walk asks, and of some pairs of nodes more."""
    return Solution(walk.nodes.shapes, [(one, other) for _, one, other in walk.equal] + more)


def can_be(walk, paths):
    """Tell whether there is a kinding if nothing is asked of other nodes than those at these paths."""
    asked = {path: True for path in paths}
    if any([path in asked for path in walk.lost]):
        return False
    return Solution(walk.nodes.shapes, [(one, other) for path, one, other in walk.equal if path in asked]).sound
