"""Runs of forms under deeds: the rows of their behaviour, with the numbers that may be shown later.

A state is a triple (row, numbers, station): numbers has those of the things of the row that may be shown
from there on, in order. An end is told by a row below 0, the outcome in the place of numbers.
"""

from formrules.least import behaviour_of
from formrules.merging import ons_of
from formrules.places import outcomes_from, things_of
from formrules.players import filled
from formrules.terms import MOST_NUMBER, TRUTHS
from formrules.wishes import led_on

TRUTH = ("truth",)
ENDED = -1


class Course:
    """The course of a form by a wish; TooMany(200).

    told is its plain scheme; things of unknown kinds are taken as numbers.
    """

    def __init__(self, shelf, cells, pair, told, wish):
        self.cells = cells
        self.kinds = dict(told[2])
        self.whole = told[3]
        self.wish = wish
        self.telling = _telling_numbers(wish)
        self.held, self.rows = behaviour_of(shelf, cells, pair[0], pair[1], told)
        self.shown = self._shown()

    def _shown(self):
        """List for each row the ascending tuple of those of its things that may be shown as numbers from there on."""
        shown = [() for _ in self.rows]
        changed = True
        while changed:
            found = [self._shown_at(kinds, what, shown) for kinds, what in self.rows]
            changed = found != shown
            shown = found
        return shown

    def _shown_at(self, kinds, what, shown):
        own = [what[1][1]] if what[0] == "shows" and what[1][0] == "thing" else []
        later = [things[at] for row, things in ons_of(what) for at in shown[row]]
        return tuple(sorted({thing: True for thing in own + later if thing < len(kinds)}))

    def starts(self):
        """List pairs (cells, state) for all that may matter of what cells hold at first."""
        found = []
        for numbers in self._all_numbers(len(self.shown[0])):
            cells = [0 for _ in self.cells]
            for thing, number in zip(self.shown[0], numbers):
                cells[self.held[thing]] = number
            found.append((tuple(cells), (0, numbers, 0)))
        return found

    def lets(self, state):
        """Tell whether the wish lets the outcome of an end; any other state is let."""
        row, outcome, station = state
        return row != ENDED or any([station in good for one, good in self.wish[2] if one == outcome])

    def passed(self, state):
        """Give the state behind a show or an end, the state itself if something must come first."""
        row, numbers, station = state
        if row == ENDED:
            return state
        what = self.rows[row][1]
        if what[0] == "shows":
            if what[1][0] == "number":
                station = self.wish[1][station][what[1][1]]
            elif what[1][0] == "thing":
                station = self.wish[1][station][numbers[self.shown[row].index(what[1][1])]]
            return self._behind(state, what[2], [], station)
        if what[0] == "ends":
            outcome = (what[1][1],) if self.whole == TRUTH else ("ends",)
            return (ENDED, outcome, station)
        return (ENDED, ("fails", what[1]), station) if what[0] == "fails" else state

    def _behind(self, state, on, new, station):
        """Give the state behind an on; new lists the numbers of the new things."""
        row, numbers, _ = state
        first = len(self.rows[row][0])
        said = {thing: number for thing, number in zip(self.shown[row], numbers)}
        behind = []
        for at in self.shown[on[0]]:
            thing = on[1][at]
            behind.append(said[thing] if thing < first else new[thing - first])
        return (on[0], tuple(behind), station)

    def steps(self, state, deeds):
        """List (index of a deed or None, step, state) for all that may come; deeds lists those that are let."""
        row, _, station = state
        if row == ENDED:
            return []
        what = self.rows[row][1]
        if what[0] == "asks":
            return [(None, ("asked", new[0]), self._behind(state, what[1], new, station))
                    for new in self._news(row, what[1], 1)]
        found = []
        if what[0] == "does":
            for at, deed in enumerate(deeds):
                if deed[0] == what[1]:
                    behind = led_on(self.wish, station, deed[2])
                    found.extend([(at, step, one) for step, one in self._done(state, what, deed, behind)])
        return found

    def _news(self, row, on, many):
        """List lists of numbers for so many new things at a row, as far as they matter behind an on."""
        first = len(self.rows[row][0])
        used = sorted({on[1][at]: True for at in self.shown[on[0]] if on[1][at] >= first})
        found = []
        for numbers in self._all_numbers(len(used)):
            new = [0] * many
            for thing, number in zip(used, numbers):
                new[thing - first] = number
            found.append(new)
        return found

    def _done(self, state, what, deed, station):
        """List pairs (step, state) for a deed where a row does its place."""
        place, outcome, _ = deed
        many = len(self.cells)
        if outcome[0] == "fails":
            ons = [on for fault, on in what[5] if fault == outcome[1]]
            if not ons:
                return [(("done", deed, None, (0,) * many), (ENDED, outcome, station))]
            return [(("done", deed, None, tuple(new)), self._behind(state, ons[0], new, station))
                    for new in self._news(state[0], ons[0], many)]
        found = []
        kind = self.kinds[place]
        for k in self.outcomes_of(place, outcome):
            own = len(things_of(kind))
            for new in self._news(state[0], what[4][k], own + many):
                term = filled(outcomes_from(kind, 0)[k], [("number", one) for one in new])
                worth = term if outcome == ("ends",) else None
                step = ("done", deed, worth, tuple(new[own:]))
                found.append((step, self._behind(state, what[4][k], new, station)))
        return found

    def _all_numbers(self, many):
        """List all tuples of so many numbers, as far as they are told apart."""
        found = [()]
        for _ in range(many):
            found = [numbers + (one,) for numbers in found for one in self.telling]
        return found

    def outcomes_of(self, place, outcome):
        """List the indexes of the outcomes of a place to which a deed may come."""
        if self.kinds[place] == TRUTH:
            return [TRUTHS.index(outcome[0])]
        return list(range(len(outcomes_from(self.kinds[place], 0))))


def _telling_numbers(wish):
    """List the numbers that lead elsewhere than lesser ones: what others can do in a line, these can."""
    found = {}
    for number in range(MOST_NUMBER + 1):
        found.setdefault(tuple([station[number] for station in wish[1]]), number)
    return list(found.values())
