"""Dim worths: worths of which only truths are known."""

from formrules.errors import BadWorth
from formrules.solving import NUMBER
from formrules.terms import headed, is_kind, is_truth_word, is_worth

YES = ("truth", "yes")
NO = ("truth", "no")
# In this order they come, ahead of pairs and unknowns.
PLAIN = (NUMBER, YES, NO)
PAIR_RANK = 3
UNKNOWN_RANK = 4
# The indexes that these have in each table of dim worths.
NUMBER_AT = 0
YES_AT = 1
NO_AT = 2


def dimmed(worth):
    """Give the dim worth of a worth; BadWorth."""
    if not is_worth(worth):
        raise BadWorth("this is no worth")
    return dim_of(worth)


def dim_of(worth):
    """Give the dim worth of what is known to be a worth."""
    if worth[0] == "pair":
        first = dim_of(worth[1])
        return ("pair", first, dim_of(worth[2]))
    return NUMBER if worth[0] == "number" else worth


def is_dim(thing):
    """Tell whether any value is a dim worth; it may have unknowns."""
    todo = [thing]
    while todo:
        one = todo.pop()
        head = headed(one)
        if head == "pair" and len(one) == 3:
            todo.extend(one[1:])
        elif head == "truth":
            if len(one) != 2 or not is_truth_word(one[1]):
                return False
        elif head == "pair" or not is_kind(one):
            return False
    return True


def has_unknowns(dim):
    """Tell whether an unknown stands in a dim worth."""
    return UNKNOWN_RANK in [rank for rank, _ in _ranks_of(dim)]


def dims_of(kind):
    """List the dim worths of a kind, in order."""
    if kind[0] == "truth":
        return [YES, NO]
    if kind[0] != "pair":
        return [kind]
    seconds = dims_of(kind[2])
    return [("pair", first, second) for first in dims_of(kind[1]) for second in seconds]


def numbered(kind):
    """Give a kind or a dim worth with its unknowns taken as numbers."""
    if kind[0] == "pair":
        first = numbered(kind[1])
        return ("pair", first, numbered(kind[2]))
    return NUMBER if kind[0] == "any" else kind


def dim_rank(dim):
    """Give what dim worths are to be sorted by: the ranks of all that stands in it, from left to right."""
    ranks = []
    for rank, i in _ranks_of(dim):
        ranks.extend([rank, i] if rank == UNKNOWN_RANK else [rank])
    return tuple(ranks)


def _ranks_of(dim):
    """List pairs (rank, number of an unknown, or None) for all that stands in a dim worth."""
    found = []
    todo = [dim]
    while todo:
        one = todo.pop()
        if one[0] == "pair":
            found.append((PAIR_RANK, None))
            todo.extend([one[2], one[1]])
        elif one[0] == "any":
            found.append((UNKNOWN_RANK, one[1]))
        else:
            found.append((PLAIN.index(one), None))
    return found


class DimTable:
    """Dim worths known by indexes, so that equal ones, however deep, have one index."""

    def __init__(self):
        self.told = [NUMBER, YES, NO]
        self.halves = [None, None, None]
        self.known = {}

    def put(self, dim):
        """Give the index of a dim worth."""
        if dim[0] == "pair":
            first = self.put(dim[1])
            return self.pair(first, self.put(dim[2]))
        if dim[0] == "any":
            return self._entry(dim, dim, None)
        return PLAIN.index(dim)

    def pair(self, first, second):
        """Give the index of the pair of two dim worths, told by their indexes."""
        return self._entry(("pair", first, second), ("pair", self.told[first], self.told[second]), (first, second))

    def _entry(self, key, dim, halves):
        if key not in self.known:
            self.known[key] = len(self.told)
            self.told.append(dim)
            self.halves.append(halves)
        return self.known[key]
