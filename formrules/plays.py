"""Real runs that have a count."""

from formrules.freeforms import FreeForm
from formrules.reaching import Reaching, need_count
from formrules.tallies import need_ending


def play(book, name, many, ending, count):
    """Give a closed use and inputs whose run has an ending and a count, None if no free run has it.

    BadBook, BadForm, BadMany, TooMany(3), TooMany(100), NoPlain, BadEnding, BadCount.
    """
    form = FreeForm(book, name, many)
    need_ending(form.whats, ending)
    need_count(form, count)
    reaching = Reaching(form, count)
    inputs = reaching.inputs(ending)
    return None if inputs is None else (reaching.acting.use(), inputs)
