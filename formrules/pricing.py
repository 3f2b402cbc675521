"""Which counts of a front are needed at some prices, and what shows this."""

from formrules.errors import BadCount
from formrules.freeforms import FreeForm
from formrules.fronts import front_of
from formrules.linear import tableau_for
from formrules.reaching import is_count
from formrules.tallies import need_ending
from formrules.terms import headed, is_number


def needed(book, name, many, ending):
    """Give the tuple of the needed counts of a front.

    BadBook, BadForm, BadMany, TooMany(3), TooMany(100), NoPlain, BadEnding.
    """
    form = FreeForm(book, name, many)
    need_ending(form.whats, ending)
    counts = front_of(form, ending)
    return tuple([count for count in counts if _reason_of(counts, count)[0] == "prices"])


def reason(book, name, many, ending, count):
    """Give prices at which a count of the front is cheapest, or a mix; the errors of needed, BadCount."""
    counts = _front_with(book, name, many, ending, count)
    return _reason_of(counts, count)


def _front_with(book, name, many, ending, count):
    form = FreeForm(book, name, many)
    need_ending(form.whats, ending)
    counts = front_of(form, ending)
    if not is_count(form, count) or count not in counts:
        raise BadCount("this is no count of the front")
    return counts


def _reason_of(counts, count):
    """Give prices or a mix for one of the counts of a front."""
    tableau = tableau_for(counts, count)
    if tableau is None:
        return "prices", tuple([1 for _ in count])
    mix = tableau.mix()
    if mix is None:
        rows = [[its - mine for its, mine in zip(other, count)] for other in counts if other != count]
        return "prices", _from_one_on(tableau.prices(), rows)
    at = counts.index(count)
    return "mix", tuple(mix[:at] + [0] + mix[at:])


def _from_one_on(prices, rows):
    """Give prices from 1 on out of some from 0 on, at which each row has a sum above 0."""
    times = 0
    for row in rows:
        # So often the sum of the row at the prices makes up for its sum at prices that are all 1.
        times = max(times, -((sum(row) - 1) // _sum_at(prices, row)))
    return tuple([times * one + 1 for one in prices])


def _sum_at(prices, row):
    return sum([price * one for price, one in zip(prices, row)])


def is_reason(book, name, many, ending, count, thing):
    """Tell whether any value is a reason for a count of the front; the errors of reason."""
    counts = _front_with(book, name, many, ending, count)
    if headed(thing) not in ("prices", "mix") or len(thing) != 2 or not isinstance(thing[1], tuple):
        return False
    numbers = thing[1]
    if not all([is_number(one) and one >= 0 for one in numbers]):
        return False
    if thing[0] == "mix":
        return len(numbers) == len(counts) and _is_mix(counts, count, numbers)
    if len(numbers) != len(count) or 0 in numbers:
        return False
    mine = _sum_at(numbers, count)
    return all([mine < _sum_at(numbers, other) for other in counts if other != count])


def _is_mix(counts, count, numbers):
    many = sum(numbers)
    if many == 0 or numbers[counts.index(count)] != 0:
        return False
    sums = [_sum_at(numbers, [one[at] for one in counts]) for at in range(len(count))]
    return all([one <= many * most for one, most in zip(sums, count)])
