"""Open runs: what a use does, its parts being answered by how they end."""

from formrules.errors import BadAnswers, BadMost
from formrules.guards import shelf_with_rows
from formrules.places import outcomes_from, things_of
from formrules.plainguards import plain_at_work
from formrules.players import Player
from formrules.scripts import written_script
from formrules.terms import headed, is_below, is_number
from formrules.words import is_name

MOST_EVENTS = 200


def played(book, name, many, answers, most, plain=None):
    """Give the pair (events, end) of an open run with these answers.

    BadBook, BadForm, BadMany, BadAnswers, BadMost, TooMany(3), TooMany(100), NoPlain, BadPlain; BadAnswers
    as well if a place has no such outcome.
    """
    shelf = shelf_with_rows(book, name, many)
    need_answers(answers)
    need_most(most)
    kinds = dict(plain_at_work(shelf, name, many, plain)[2])
    return play_of(written_script(shelf, (name, many), ()), book[1], kinds, answers, most)


def need_answers(thing):
    """BadAnswers unless any value is a list of answers."""
    if not isinstance(thing, (list, tuple)) or not all([_is_answer(one) for one in thing]):
        raise BadAnswers("this is no list of answers")


def _is_answer(thing):
    head = headed(thing)
    if head not in ("ends", "fails") or len(thing) != 2:
        return False
    return is_number(thing[1]) and thing[1] >= 0 if head == "ends" else is_name(thing[1])


def need_most(thing):
    """BadMost unless any value is a number from 0 to 200."""
    if not is_below(thing, MOST_EVENTS + 1):
        raise BadMost("this is no number from 0 to 200")


def play_of(script, cells, kinds, answers, most):
    """Give the pair (events, end) of what a script plays; kinds tells those of part places; BadAnswers."""
    things = len(cells)
    held = [("thing", at) for at in range(things)]
    player = Player(script, cells, [("begin", 0, tuple([None for _ in script.needs[0]]), 0)], held)
    left = list(answers)[::-1]
    events = []
    while True:
        what = player.go()
        if what[0] not in ("does", "shows", "asks"):
            return tuple(events), what
        if len(events) == most:
            return tuple(events), ("more",)
        events.append(what)
        if what[0] == "does" and not left:
            return tuple(events), ("open",)
        player = Player(script, cells, player.frames, player.held)
        if what[0] == "does":
            things = _answer(player, kinds[what[1]], left.pop(), things)
        elif what[0] == "asks":
            player.give(("thing", things))
            things += 1


def _answer(player, kind, answer, things):
    """Let a place of a kind end as an answer tells; give the number of things then; BadAnswers."""
    new = len(things_of(kind)) if answer[0] == "ends" else 0
    player.held = [("thing", things + new + at) for at in range(len(player.held))]
    if answer[0] == "fails":
        player.fail(answer[1])
    elif answer[1] < len(outcomes_from(kind, things)):
        player.give(outcomes_from(kind, things)[answer[1]])
    else:
        raise BadAnswers("a place has no such outcome")
    return things + new + len(player.held)
