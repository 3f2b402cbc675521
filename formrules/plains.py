"""Plain schemes: one kind for each place at all copies, and for the whole."""

from formrules.errors import BadPlain
from formrules.finding import Schemes
from formrules.guards import shelf_with_rows
from formrules.kindtables import KindReader, KindTable
from formrules.schemes import is_place
from formrules.shelves import place_rank
from formrules.solving import KindNodes, Solution
from formrules.terms import headed, is_kind


def is_plain(thing):
    """Tell whether any value is a plain scheme, whether or not some form has these places."""
    if headed(thing) != "plain" or len(thing) != 4:
        return False
    _, names, parts, kind = thing
    return _are_placed(names, "bind", "row") and _are_placed(parts, "part", "here") and is_kind(kind)


def _are_placed(thing, plain_head, row_head):
    """Tell whether any value is a tuple of pairs (place, kind) in the order of places, which are different."""
    if not isinstance(thing, tuple):
        return False
    if not all([isinstance(one, tuple) and len(one) == 2 for one in thing]):
        return False
    if not all([is_place(place, plain_head, row_head) and is_kind(kind) for place, kind in thing]):
        return False
    ranks = [place_rank(place) for place, _ in thing]
    return all([one < other for one, other in zip(ranks, ranks[1:])])


def plain(book, name, many):
    """Give the weakest plain scheme of a form, None if there is none; BadBook, BadForm, BadMany, TooMany(100)."""
    return weakest_plain(shelf_with_rows(book, name, many), name, many)


def weakest_plain(shelf, name, many):
    """Give the weakest plain scheme of a form on a shelf, None if there is none; TooMany(100)."""
    told = Schemes(shelf).of((name, many))
    if told is None:
        return None
    nodes = KindNodes()
    unknowns = {}
    names = {place: nodes.unknown() for place in shelf.name_places((name, many))}
    parts = {place: nodes.unknown() for place in shelf.placed_parts((name, many))}
    equal = []
    for place, seen, kind in told[1]:
        equal.extend([(names[at], nodes.put(its, unknowns)) for at, its in seen])
        equal.append((parts[place], nodes.put(kind, unknowns)))
    whole = nodes.put(told[2], unknowns)
    return _told(Solution(nodes.shapes, equal), names, parts, whole)


def _told(solution, names, parts, whole):
    """Give the plain scheme of nodes for places and for the whole, None without a solution."""
    if not solution.sound:
        return None
    table = KindTable()
    reader = KindReader(solution, table)
    nodes = list(names.values()) + list(parts.values()) + [whole]
    kinds = table.told([reader.read(node) for node in nodes])
    named = tuple([(place, kind) for place, kind in zip(names, kinds)])
    parted = tuple([(place, kind) for place, kind in zip(parts, kinds[len(names):])])
    return ("plain", named, parted, kinds[-1])


def need_plain(thing):
    """BadPlain unless any value is a plain scheme."""
    if not is_plain(thing):
        raise BadPlain("this is no plain scheme")


def is_filling(one, other):
    """Tell whether one becomes other by filling unknowns; BadPlain for each."""
    need_plain(one)
    need_plain(other)
    if _places_of(one) != _places_of(other):
        return False
    filled = {}
    todo = list(zip(_kinds_of(one), _kinds_of(other)))
    while todo:
        mine, its = todo.pop()
        if mine[0] == "any":
            if filled.setdefault(mine[1], its) != its:
                return False
        elif mine[0] != its[0]:
            return False
        elif mine[0] == "pair":
            todo.extend([(mine[1], its[1]), (mine[2], its[2])])
    return True


def common(one, other):
    """Give the weakest plain scheme that comes of both, None without one; BadPlain for each."""
    need_plain(one)
    need_plain(other)
    if _places_of(one) != _places_of(other):
        return None
    nodes = KindNodes()
    mine, its = {}, {}
    names = {place: nodes.put(kind, mine) for place, kind in one[1]}
    parts = {place: nodes.put(kind, mine) for place, kind in one[2]}
    whole = nodes.put(one[3], mine)
    ours = list(names.values()) + list(parts.values()) + [whole]
    equal = [(node, nodes.put(kind, its)) for node, kind in zip(ours, _kinds_of(other))]
    return _told(Solution(nodes.shapes, equal), names, parts, whole)


def _places_of(told):
    return [place for place, _ in told[1]] + [place for place, _ in told[2]]


def _kinds_of(told):
    return [kind for _, kind in told[1]] + [kind for _, kind in told[2]] + [told[3]]
