"""Deeds of part places, under which a form keeps a wish, and stories of runs that break it."""

from formrules.dims import numbered
from formrules.errors import BadDeeds, NoPlain, TooMany
from formrules.guards import shelf_with_rows
from formrules.kindtables import MOST_SEATS
from formrules.plainguards import need_few_rows
from formrules.plains import weakest_plain
from formrules.players import outcome_of
from formrules.schemes import is_place
from formrules.signatures import is_of
from formrules.stories import ENDED, TRUTH, Course
from formrules.terms import headed, is_figure, is_worth
from formrules.wishes import is_line, is_outcome, led_on, need_wish


def is_deed(book, name, many, wish, thing):
    """Tell whether any value is a deed of a form with so many rows.

    BadBook, BadForm, BadMany, NoPlain, BadWish, TooMany(3), TooMany(100), TooMany(200).
    """
    actor = actor_for(book, name, many, wish)
    actor.course()
    return actor.can(thing)


def story(book, name, many, wish, deeds):
    """Give None if a form keeps a wish under deeds, otherwise a story with as few steps as can be.

    The errors of is_deed, BadDeeds ahead of TooMany.
    """
    actor = actor_for(book, name, many, wish)
    actor.need_deeds(deeds)
    return first_story(actor.course(), deeds)


def is_story(book, name, many, wish, deeds, thing):
    """Tell whether any value is a story of a form under deeds; the errors of story."""
    actor = actor_for(book, name, many, wish)
    actor.need_deeds(deeds)
    course = actor.course()
    if not isinstance(thing, tuple) or len(thing) != 2 or not isinstance(thing[1], tuple):
        return False
    if not _are_figures(thing[0], len(course.cells)):
        return False
    return Telling(actor, course, deeds, thing[0]).tells(thing[1])


def _are_figures(thing, many):
    return isinstance(thing, tuple) and len(thing) == many and all([is_figure(one) for one in thing])


def actor_for(book, name, many, wish):
    """Give the actor for a form and a wish; BadBook, BadForm, BadMany, NoPlain, BadWish."""
    shelf = shelf_with_rows(book, name, many)
    told = plain_or_refused(shelf, name, many)
    need_wish(wish)
    return Actor(shelf, book[1], (name, many), told, wish)


def plain_or_refused(shelf, name, many):
    """Give the plain scheme of a form, None where a scheme is refused; NoPlain."""
    try:
        told = weakest_plain(shelf, name, many)
    except TooMany:
        return None
    if told is None:
        raise NoPlain("the form has no plain scheme")
    return told


class Actor:
    """A form with many rows, and what its places may do by a wish; told is its plain scheme, None if it is refused."""

    def __init__(self, shelf, cells, pair, told, wish):
        self.shelf = shelf
        self.cells = cells
        self.pair = pair
        self.told = told
        self.wish = wish
        self.faults = [outcome for outcome, _ in wish[2] if outcome[0] == "fails"]

    def course(self):
        """Give the course of the form; TooMany(3), TooMany(100), TooMany(200)."""
        need_few_rows(self.pair[1])
        if self.told is None:
            raise TooMany(MOST_SEATS)
        return Course(self.shelf, self.cells, self.pair, self.told, self.wish)

    def places(self):
        """List the pairs (place, kind) of the part places, in order; kinds are None where the scheme is refused."""
        if self.told is None:
            return [(place, None) for place in self.shelf.placed_parts(self.pair)]
        return list(self.told[2])

    def outcomes(self, kind):
        """List the outcomes of deeds at a place of a kind, in order."""
        faults = sorted(self.faults)
        if kind is None:
            return [("ends",), ("yes",), ("no",)] + faults
        return ([("yes",), ("no",)] if kind == TRUTH else [("ends",)]) + faults

    def can(self, thing):
        """Tell whether any value is a deed of the form."""
        if not isinstance(thing, tuple) or len(thing) != 3 or not is_line(thing[2]):
            return False
        place, outcome, _ = thing
        if not is_place(place, "part", "here") or not is_outcome(outcome):
            return False
        kinds = {one: kind for one, kind in self.places()}
        return place in kinds and outcome in self.outcomes(kinds[place])

    def need_deeds(self, thing):
        """BadDeeds unless any value is a list of deeds of the form."""
        if not isinstance(thing, (list, tuple)) or not all([self.can(one) for one in thing]):
            raise BadDeeds("this is no list of deeds of the form")


def first_story(course, deeds):
    """Give a story under deeds with as few steps as can be, None if there is none."""
    found = {state: (None, cells) for cells, state in course.starts()}
    level = list(found)
    while level:
        for state in level_passed(course, level, found):
            if not course.lets(state):
                return _told(found, state)
        level = _level_behind(course, level, deeds, found)
    return None


def level_passed(course, level, found):
    """Add to a list of states all that come of them without steps, and list all; found gets where these come from."""
    at = 0
    while at < len(level):
        state = course.passed(level[at])
        if state not in found:
            found[state] = (level[at], None)
            level.append(state)
        at += 1
    return level


def _level_behind(course, level, deeds, found):
    """List the states that come by one step; found gets where they come from."""
    behind = []
    for state in level:
        for _, step, one in course.steps(state, deeds):
            if one not in found:
                found[one] = (state, step)
                behind.append(one)
    return behind


def _told(found, state):
    """Give the story that led to a state."""
    steps = []
    while found[state][0] is not None:
        state, step = found[state]
        steps.extend([] if step is None else [step])
    return found[state][1], tuple(steps[::-1])


class Telling:
    """A run that goes as steps tell: the row, the numbers of all of its things, and the station."""

    def __init__(self, actor, course, deeds, cells):
        self.actor = actor
        self.course = course
        self.deeds = list(deeds)
        self.row = 0
        self.numbers = [cells[at] for at in course.held]
        self.station = 0
        self.end = None

    def tells(self, steps):
        """Tell whether the run goes by these steps alone, to an end that the wish does not let."""
        if not self._goes_on():
            return False
        for step in steps:
            if self.end is not None or not self._takes(step) or not self._goes_on():
                return False
        return self.end is not None and not self.course.lets((ENDED, self.end, self.station))

    def _goes_on(self):
        """Go on to where a step is due, or to an end; tell whether there is one of these."""
        seen = {}
        while self.end is None:
            key = (self.row, tuple(self.numbers))
            what = self.course.rows[self.row][1]
            if key in seen or what[0] == "never":
                return False
            seen[key] = True
            if what[0] in ("does", "asks"):
                return True
            if what[0] == "shows":
                self._show(what[1])
                self._follow(what[2], [])
            else:
                self.end = self._end_of(what)
        return True

    def _show(self, term):
        if term[0] == "number":
            self.station = led_on(self.course.wish, self.station, (term[1],))
        elif term[0] == "thing":
            self.station = led_on(self.course.wish, self.station, (self.numbers[term[1]],))

    def _end_of(self, what):
        if what[0] == "fails":
            return ("fails", what[1])
        return (what[1][1],) if self.course.whole == TRUTH else ("ends",)

    def _follow(self, on, new):
        held = self.numbers + list(new)
        self.row = on[0]
        self.numbers = [held[thing] for thing in on[1]]

    def _takes(self, step):
        """Take a step, any value; tell whether it can come here."""
        what = self.course.rows[self.row][1]
        if what[0] == "asks":
            fine = headed(step) == "asked" and len(step) == 2 and is_figure(step[1])
            if fine:
                self._follow(what[1], [step[1]])
            return fine
        if headed(step) != "done" or len(step) != 4 or not self.actor.can(step[1]) or step[1] not in self.deeds:
            return False
        _, deed, worth, cells = step
        if deed[0] != what[1] or not _are_figures(cells, len(self.course.cells)):
            return False
        return self._takes_deed(what, deed, worth, cells)

    def _takes_deed(self, what, deed, worth, cells):
        place, outcome, line = deed
        self.station = led_on(self.course.wish, self.station, line)
        kind = self.course.kinds[place]
        if outcome == ("ends",):
            if not is_worth(worth) or not is_of(worth, numbered(kind)):
                return False
            k, things = outcome_of(kind, worth)
            self._follow(what[4][k], [one[1] for one in things] + list(cells))
            return True
        if outcome[0] == "fails":
            ons = [on for fault, on in what[5] if fault == outcome[1]]
            if ons:
                self._follow(ons[0], cells)
            else:
                self.end = outcome
        else:
            self._follow(what[4][self.course.outcomes_of(place, outcome)[0]], cells)
        return worth is None
