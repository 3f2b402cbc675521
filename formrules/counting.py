"""Counts: how many nodes of its rule a use works out, and how often its parts come to what."""

from formrules.closed import is_closed_on
from formrules.errors import BadUse, TooMany
from formrules.expanding import Sizes
from formrules.freeforms import FreeForm
from formrules.guards import shelf_for
from formrules.running import need_inputs
from formrules.tallies import slots_of
from formrules.watching import Watcher
from formrules.whats import Whats
from formrules.writing import MOST_NODES


def slots(book, name, many):
    """Give the tuple of the things that are outcomes; BadBook, BadForm, BadMany, TooMany(3), TooMany(100), NoPlain."""
    return tuple(slots_of(FreeForm(book, name, many)))


def counted(book, use, inputs):
    """Give the triple (end, own, doings) of the run of a closed own use, None if it has no end.

    BadBook, BadExpression, BadUse, BadInputs, TooMany(1000).
    """
    shelf = shelf_for(book, use)
    if use[0] != "own" or not is_closed_on(shelf, use):
        raise BadUse("this is no closed own use")
    need_inputs(inputs)
    if Sizes(shelf).of(use) > MOST_NODES:
        raise TooMany(MOST_NODES)
    watcher = Watcher(shelf, Whats(book), use, inputs, None)
    watcher.work(watcher.rule)
    if watcher.end == ("never",):
        return None
    return watcher.end, watcher.own, tuple([watcher.doings[key] for key in sorted(watcher.doings)])
