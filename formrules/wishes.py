"""Wishes: with which lines of shown numbers which outcomes are let, and which lines are alike for this."""

from formrules.errors import BadLine, BadWish, TooMany
from formrules.terms import MOST_NUMBER, headed, is_below, is_figure
from formrules.words import is_name

MOST_STATIONS = 5
MOST_LINES = 30


def is_wish(thing):
    """Tell whether any value is a wish."""
    if headed(thing) != "wish" or len(thing) != 3 or not isinstance(thing[1], tuple):
        return False
    _, stations, goods = thing
    many = len(stations)
    if not 1 <= many <= MOST_STATIONS or not all([_is_station(one, many) for one in stations]):
        return False
    if not isinstance(goods, tuple) or not all([_is_good(one, many) for one in goods]):
        return False
    return len({outcome: True for outcome, _ in goods}) == len(goods)


def _is_station(thing, many):
    return isinstance(thing, tuple) and len(thing) == MOST_NUMBER + 1 and all([is_below(one, many) for one in thing])


def _is_good(thing, many):
    if not isinstance(thing, tuple) or len(thing) != 2 or not is_outcome(thing[0]) or not isinstance(thing[1], tuple):
        return False
    if not all([is_below(one, many) for one in thing[1]]):
        return False
    return all([one < other for one, other in zip(thing[1], thing[1][1:])])


def is_outcome(thing):
    """Tell whether any value is an outcome that a wish may name."""
    head = headed(thing)
    if head == "fails":
        return len(thing) == 2 and is_name(thing[1])
    return head in ("ends", "yes", "no") and len(thing) == 1


def is_line(thing):
    """Tell whether any value is a line."""
    return isinstance(thing, tuple) and all([is_figure(one) for one in thing])


def need_wish(thing):
    """BadWish unless any value is a wish."""
    if not is_wish(thing):
        raise BadWish("this is no wish")


def first_line(wish, line):
    """Give the first of the lines that are alike a line; BadWish, BadLine, TooMany(30)."""
    need_wish(wish)
    if not is_line(line):
        raise BadLine("this is no line")
    return Lines(wish).first_of(line)


def first_lines(wish):
    """Give the tuple of the first lines of all lots of alike lines, in order; BadWish, TooMany(30)."""
    need_wish(wish)
    return tuple(Lines(wish).firsts)


def led_on(wish, station, line):
    """Give the station to which a line leads from one."""
    for one in line:
        station = wish[1][station][one]
    return station


class Lines:
    """The lots of alike lines of a wish; TooMany(30).

    Lines are alike if they lead from each station that some line leads to, to stations alike: stations are
    alike if behind them all lines let the same. firsts lists the first line of each lot, in order.
    """

    def __init__(self, wish):
        self.wish = wish
        self.come = self._come()
        self.lots = self._lots()
        self.firsts = [()]
        self.known = {self._way_of(()): ()}
        at = 0
        while at < len(self.firsts):
            for number in range(MOST_NUMBER + 1):
                self._take(self.firsts[at] + (number,))
            at += 1

    def _come(self):
        """List the stations to which some line leads."""
        found = [0]
        at = 0
        while at < len(found):
            found.extend([one for one in sorted(set(self.wish[1][found[at]])) if one not in found])
            at += 1
        return found

    def _lots(self):
        """List for each station the number of its lot of stations that are alike."""
        lots = [tuple([at in good for _, good in self.wish[2]]) for at in range(len(self.wish[1]))]
        many = 0
        while len({lot: True for lot in lots}) > many:
            many = len({lot: True for lot in lots})
            numbers = _numbered(lots)
            own = [numbers[lot] for lot in lots]
            lots = [(own[at],) + tuple([own[one] for one in self.wish[1][at]]) for at in range(len(lots))]
        numbers = _numbered(lots)
        return [numbers[lot] for lot in lots]

    def _way_of(self, line):
        """Give the lots to which a line leads from the stations that come."""
        return tuple([self.lots[led_on(self.wish, station, line)] for station in self.come])

    def _take(self, line):
        """Take a line behind all that are lesser, if none of these is alike."""
        way = self._way_of(line)
        if way not in self.known:
            self.known[way] = line
            self.firsts.append(line)
            if len(self.firsts) > MOST_LINES:
                raise TooMany(MOST_LINES)

    def first_of(self, line):
        """Give the first of the lines that are alike a line."""
        return self.known[self._way_of(line)]


def _numbered(things):
    """Give the dict from things to numbers, one for equal ones."""
    return {thing: k for k, thing in enumerate(sorted({one: True for one in things}))}
