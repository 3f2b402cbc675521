"""Signatures: what kinds the free names and the whole of an expression have."""

from formrules.errors import BadKind, BadSignature, BadWorth
from formrules.freenames import free_names
from formrules.solving import NUMBER, TRUTH
from formrules.terms import is_kind, is_worth
from formrules.words import is_name

# How many lets share out the unknowns of an expression: so it never nests deep.
MOST_LETS = 32
YES = ("truth", "yes")
FAIL = ("fail", "w")


def is_signature(thing):
    """Tell whether any value is a signature."""
    if not _is_pair(thing) or not isinstance(thing[0], tuple) or not is_kind(thing[1]):
        return False
    if not all([_is_pair(one) and is_name(one[0]) and is_kind(one[1]) for one in thing[0]]):
        return False
    names = [x for x, _ in thing[0]]
    return all([one < other for one, other in zip(names, names[1:])])


def _is_pair(thing):
    return isinstance(thing, tuple) and len(thing) == 2


def is_of(worth, kind):
    """Tell whether a worth has some filling of a kind; BadWorth, BadKind."""
    if not is_worth(worth):
        raise BadWorth("this is no worth")
    if not is_kind(kind):
        raise BadKind("this is no kind")
    filled = {}
    todo = [(_kind_of(worth), kind)]
    while todo:
        its, wanted = todo.pop()
        if wanted[0] == "any":
            if filled.setdefault(wanted[1], its) != its:
                return False
        elif wanted[0] != its[0]:
            return False
        elif wanted[0] == "pair":
            todo.extend([(its[1], wanted[1]), (its[2], wanted[2])])
    return True


def _kind_of(worth):
    if worth[0] == "pair":
        return ("pair", _kind_of(worth[1]), _kind_of(worth[2]))
    return NUMBER if worth[0] == "number" else TRUTH


def expression_of(signature):
    """Give a core expression whose weakest signature this is; BadSignature."""
    if not is_signature(signature):
        raise BadSignature("this is no signature")
    names, kind = signature
    shared = _shared_unknowns([one for _, one in names] + [kind])
    lets = free_names({x: True for x, _ in names}, min(len(shared), MOST_LETS))
    unknowns = _readings(shared, lets)
    e = expression_of_kind(kind, unknowns)
    if names:
        e = ("then", holding(names, unknowns), e)
    for x in lets:
        e = ("let", x, FAIL, e)
    return e


def _shared_unknowns(kinds):
    """List the unknowns that stand in these kinds more than once."""
    counts = {}
    todo = list(kinds)
    while todo:
        kind = todo.pop()
        if kind[0] == "any":
            counts[kind[1]] = counts.get(kind[1], 0) + 1
        elif kind[0] == "pair":
            todo.extend([kind[1], kind[2]])
    return [i for i in sorted(counts) if counts[i] > 1]


def _readings(shared, lets):
    """Give for each unknown an expression that reads it: a name, or a part of what a name is.

    The worth of each let fails, so its kind is unknown but for what is read of it.
    """
    readings = {}
    for at, x in enumerate(lets):
        for i, e in zip(shared[at::len(lets)], _parts_of(("name", x), len(shared[at::len(lets)]))):
            readings[i] = e
    return readings


def _parts_of(e, many):
    """List expressions for so many parts of e, none of which is within another one."""
    if many == 1:
        return [e]
    half = many // 2
    return _parts_of(("first", e), half) + _parts_of(("second", e), many - half)


def expression_of_kind(kind, unknowns):
    """Give a core expression of a kind; unknowns that the dict does not tell have nothing in common."""
    if kind[0] == "pair":
        first = expression_of_kind(kind[1], unknowns)
        return ("pair", first, expression_of_kind(kind[2], unknowns))
    if kind[0] == "any":
        return unknowns.get(kind[1], FAIL)
    return ("number", 0) if kind == NUMBER else YES


def holding(names, unknowns):
    """Give a core expression in which these names, one or more, have these kinds."""
    read = _balanced([("name", x) for x, _ in names])
    return ("if", YES, read, _balanced([expression_of_kind(kind, unknowns) for _, kind in names]))


def _balanced(expressions):
    """Give one pair of pairs of all these expressions, nested as little as can be."""
    if len(expressions) == 1:
        return expressions[0]
    half = len(expressions) // 2
    return ("pair", _balanced(expressions[:half]), _balanced(expressions[half:]))
