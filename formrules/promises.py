"""Weakest promises: the greatest lots of class deeds under which a form keeps a wish."""

from formrules.deeds import Actor, actor_for, first_story, level_passed, plain_or_refused
from formrules.editions import need_kept
from formrules.errors import BadKinds, NoPlain, TooMany
from formrules.shelves import Shelf
from formrules.stories import TRUTH
from formrules.wishes import Lines, need_wish

MOST_DEEDS = 40
MOST_PROMISES = 60


def weakest(book, name, many, wish):
    """List the promises under which a form keeps a wish, and under no greater ones.

    BadBook, BadForm, BadMany, NoPlain, BadWish, TooMany(3), TooMany(100), TooMany(200), TooMany(30), TooMany(40),
    TooMany(60).
    """
    actor = actor_for(book, name, many, wish)
    return Promises(actor, actor.course()).all_found()


def promise_for(book, name, many, wish, deeds):
    """Give one of these promises that has the class deeds of all deeds, None if there is none.

    The errors of weakest, BadDeeds ahead of TooMany.
    """
    actor = actor_for(book, name, many, wish)
    actor.need_deeds(deeds)
    promises = Promises(actor, actor.course())
    classes = [deed[:2] + (promises.lines.first_of(deed[2]),) for deed in deeds]
    for promise in promises.all_found():
        if all([deed in promise for deed in classes]):
            return promise
    return None


def still(old, new, name, many, wish):
    """Give None if by new a form keeps a wish under each promise by old, otherwise a pair (promise, story).

    BadBook, BadBook, BadCells, BadForm, BadMany, NoPlain, BadKinds, BadWish, and TooMany as weakest.
    """
    need_kept(old, new, name, many)
    shelves = [Shelf(old[2]), Shelf(new[2])]
    plains = _plains_of(shelves, name, many)
    need_wish(wish)
    actors = [Actor(shelf, old[1], (name, many), told, wish) for shelf, told in zip(shelves, plains)]
    courses = [actor.course() for actor in actors]
    promises = Promises(actors[0], courses[0])
    for promise in promises.all_found():
        found = first_story(courses[1], promise)
        if found is not None:
            return promise, found
    return None


def _plains_of(shelves, name, many):
    """List the plain schemes of a form on two shelves, None where a scheme is refused; NoPlain, BadKinds."""
    plains = []
    lacking = False
    for shelf in shelves:
        try:
            plains.append(plain_or_refused(shelf, name, many))
        except NoPlain:
            lacking = True
    if lacking:
        raise NoPlain("the form has no plain scheme in one of the books")
    if None not in plains:
        kinds = [[kind for _, kind in told[2]] + [told[3]] for told in plains]
        if any([(one == TRUTH) != (other == TRUTH) for one, other in zip(kinds[0], kinds[1])]):
            raise BadKinds("a place is a truth in just one of the books")
    return plains


class Promises:
    """The class deeds of a form by a wish, in order, and lots of them, told by numbers with a bit for each.

    found and broken have the greatest lots found so far under which the wish is kept, and the least ones under
    which it is not.
    """

    def __init__(self, actor, course):
        self.course = course
        self.lines = Lines(actor.wish)
        self.deeds = [(place, outcome, line) for place, kind in actor.places() for outcome in actor.outcomes(kind)
                      for line in self.lines.firsts]
        if len(self.deeds) > MOST_DEEDS:
            raise TooMany(MOST_DEEDS)
        self.starts = [state for _, state in self.course.starts()]
        self.bad = {}
        self.behind = {}
        self._explore()
        self.found = []
        self.broken = []

    def _explore(self):
        """Find all states that come under any deeds, and which of them are ends that the wish does not let."""
        level = level_passed(self.course, list(self.starts), {state: True for state in self.starts})
        known = {state: True for state in level}
        while level:
            fresh = []
            for state in level:
                if not self.course.lets(state):
                    self.bad[state] = True
                self.behind[state] = self._moves(state)
                for _, one in self.behind[state]:
                    if one not in known:
                        known[one] = True
                        fresh.append(one)
            level = fresh

    def _moves(self, state):
        """List pairs (bit of a deed or 0, state) for all that comes behind a state."""
        passed = self.course.passed(state)
        found = {(0, passed): True} if passed != state else {}
        for at, _, one in self.course.steps(state, self.deeds):
            found[(0 if at is None else 1 << at, one)] = True
        return list(found)

    def all_found(self):
        """List the greatest promises under which the wish is kept; TooMany(60)."""
        if self._broken_by(0) is not None:
            return []
        self._search()
        return [tuple([deed for at, deed in enumerate(self.deeds) if lot >> at & 1]) for lot in self.found]

    def _search(self):
        """Find all greatest lots: those within a lot that have what is held, by taking deeds out one by one."""
        todo = [((1 << len(self.deeds)) - 1, 0)]
        while todo:
            lot, held = todo.pop()
            if any([lot & one == lot for one in self.found]):
                continue
            choices = self._choices(lot, held)
            for at in range(len(self.deeds)):
                if choices >> at & 1:
                    todo.append((lot ^ 1 << at, held))
                    held |= 1 << at

    def _choices(self, lot, held):
        """Give the deeds of a lot one of which must be taken out, none if a greatest lot is found around it."""
        within = [one & ~held for one in self.broken if one & lot == one]
        if within:
            return min(within, key=_bits_of)
        broken = self._broken_by(lot)
        if broken is not None:
            self.broken.append(self._shrunk(broken))
            return self.broken[-1] & ~held
        self.found.append(self._grown(lot))
        if len(self.found) > MOST_PROMISES:
            raise TooMany(MOST_PROMISES)
        return 0

    def _broken_by(self, lot):
        """Give the lot of the deeds of a story under a lot, None if the wish is kept."""
        come = {state: 0 for state in self.starts}
        todo = list(self.starts)
        at = 0
        while at < len(todo):
            state = todo[at]
            if state in self.bad:
                return come[state]
            for bit, one in self.behind[state]:
                if bit & lot == bit and one not in come:
                    come[one] = come[state] | bit
                    todo.append(one)
            at += 1
        return None

    def _grown(self, lot):
        for at in range(len(self.deeds)):
            if self._broken_by(lot | 1 << at) is None:
                lot |= 1 << at
        return lot

    def _shrunk(self, lot):
        for at in range(len(self.deeds)):
            if lot >> at & 1 and self._broken_by(lot ^ 1 << at) is not None:
                lot ^= 1 << at
        return lot


def _bits_of(lot):
    return f"{lot:b}".count("1")
