"""Things to which the part places of forms can come, and the least lots of these that a goal needs."""

from formrules.freeforms import FreeForm, SomePlaces
from formrules.freeruns import FreeRuns, Sums


def things(book, name, many):
    """Give the tuple of the things of a form with so many rows.

    BadBook, BadForm, BadMany, TooMany(3), TooMany(100), NoPlain.
    """
    return tuple(FreeForm(book, name, many).things)


def needs(book, name, many, goal):
    """Give the tuple of the least lots under which a goal comes; the errors of things, BadGoal."""
    form = FreeForm(book, name, many)
    form.need_goal(goal)
    return tuple([tuple([form.things[at] for at in lot]) for lot in needs_of(form, goal)])


def needs_of(form, goal):
    """List the least lots under which a goal comes, each a tuple of the indexes of its things."""
    runs = FreeRuns(form.shelf, LeastLots())
    values = {key: (1 << at,) for key, at in form.indexes.items()}
    result = form.result(runs, SomePlaces(form, runs, values))
    lots = [_indexes_in(lot) for lot in result.get(runs.coded(goal), ())]
    return sorted(lots, key=lambda lot: (len(lot), lot))


def _indexes_in(lot):
    """Give the tuple of the indexes of the bits of a number."""
    return tuple([at for at in range(lot.bit_length()) if lot >> at & 1])


class LeastLots(Sums):
    """Sums whose values are the least lots that let something: ascending tuples of numbers, a bit for each thing."""

    def __init__(self):
        Sums.__init__(self)
        self.one = (0,)

    def plus(self, one, other):
        """Give the least lots that let either."""
        return one if one == other else _least(list(one) + list(other))

    def times(self, one, other):
        """Give the least lots that let both."""
        if one == self.one or other == self.one:
            return other if one == self.one else one
        return _least([lot | more for lot in one for more in other])


def _least(lots):
    """Give the ascending tuple of those lots within which no other one lies."""
    found = []
    for lot in sorted({lot: True for lot in lots}, key=_size_of):
        if not _has_one_within(found, lot):
            found.append(lot)
    return tuple(sorted(found))


def _size_of(lot):
    return f"{lot:b}".count("1")


def _has_one_within(lots, lot):
    for one in lots:
        if one & lot == one:
            return True
    return False
