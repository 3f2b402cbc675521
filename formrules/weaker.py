"""Whether one scheme asks no more than another one, and uses that tell them apart."""

from formrules.errors import TooMany
from formrules.freenames import free_names
from formrules.schemes import are_names, are_parts, have_parts, is_fit, need_scheme
from formrules.signatures import expression_of_kind, holding, is_signature
from formrules.solving import KindNodes, Solution, unknowns_of

# This has no signature: so it can only stand where there is no seat.
KINDLESS = ("first", ("number", 0))


def weaker(one, other):
    """Tell whether every use that fits other with a signature fits one with it.

    BadScheme for each, TooMany(1) if a place has more than one seat in other.
    """
    _need_schemes(one, other)
    return _is_weaker(one, other)


def _need_schemes(one, other):
    need_scheme(one)
    need_scheme(other)
    places = [place for place, _, _ in other[1]]
    if len({place: True for place in places}) != len(places):
        raise TooMany(1)


def _is_weaker(one, other):
    nodes = KindNodes()
    unknowns = {}
    equal = [(nodes.put(one[2], unknowns), nodes.put_fixed(other[2]))]
    seats = {place: (seen, kind) for place, seen, kind in other[1]}
    for place, seen, kind in one[1]:
        if place not in seats:
            return False
        mine, its = dict(seen), dict(seats[place][0])
        if not all([at in mine for at in its]):
            return False
        equal.append((nodes.put(kind, unknowns), nodes.put_fixed(seats[place][1])))
        for at in mine:
            # What other does not see there may have any kind around the use, one for each name place.
            wanted = nodes.put_fixed(its[at]) if at in its else nodes.made(("fixed", at))
            equal.append((nodes.put(mine[at], unknowns), wanted))
    return Solution(nodes.shapes, equal).sound


def parted(one, other):
    """Give None if one is weaker, otherwise a use (names, parts, signature) that fits other alone."""
    _need_schemes(one, other)
    return None if _is_weaker(one, other) else _use_of_other(one, other)


def _use_of_other(one, other):
    """Give the use that fits of all that are not weaker than other none.

    Around it each unknown of other is the kind of a name, and so is the kind that each name of
    the use has there: by reading these, parts hold fast all that a scheme might fill.
    """
    places = sorted({at: True for told in (one, other) for _, seen, _ in told[1] for at, _ in seen})
    unknowns = sorted({i: True for kind in _kinds_in(other) for i in unknowns_of(kind)})
    beyond = 1 + max(unknowns, default=0)
    outside = {at: beyond + k for k, at in enumerate(places)}
    holders = unknowns + [outside[at] for at in places]
    words = free_names({}, len(places) + len(holders))
    names = {at: x for at, x in zip(places, words)}
    held = {i: x for i, x in zip(holders, words[len(places):])}
    parts = {place: KINDLESS for place, _, _ in one[1]}
    for place, seen, kind in other[1]:
        kinds = {at: ("any", outside[at]) for at in places}
        kinds.update({at: its for at, its in seen})
        parts[place] = _part_of(kind, [(names[at], kinds[at]) for at in places], held)
    told = [(names[at], ("any", outside[at])) for at in places] + [(held[i], ("any", i)) for i in holders]
    return tuple(sorted(names.items())), tuple(sorted(parts.items())), (tuple(sorted(told)), other[2])


def _kinds_in(told):
    seen = [kind for _, names, _ in told[1] for _, kind in names]
    return seen + [kind for _, _, kind in told[1]] + [told[2]]


def _part_of(kind, names, held):
    """Give an expression of a kind in which names have kinds; held tells names of unknown kinds."""
    readings = {i: ("name", x) for i, x in held.items()}
    e = expression_of_kind(kind, readings)
    if not names:
        return e
    return ("then", holding(names, readings), e)


def is_parted(one, other, thing):
    """Tell whether any value is a use that fits other and not one; the errors of weaker."""
    _need_schemes(one, other)
    if not isinstance(thing, tuple) or len(thing) != 3:
        return False
    names, parts, signature = thing
    if not are_names(names) or not are_parts(parts) or not is_signature(signature):
        return False
    if not have_parts(one, parts) or not have_parts(other, parts):
        return False
    return is_fit(other, names, parts, signature) and not is_fit(one, names, parts, signature)
