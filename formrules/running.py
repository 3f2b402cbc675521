"""Running of what expressions are written out to."""

from formrules.errors import BadInputs, BadMost
from formrules.guards import shelf_for
from formrules.machine import Machine
from formrules.terms import is_below, is_figure
from formrules.writing import written_on

MOST_EVENTS = 200


def run(book, e, inputs, most):
    """Give the showing of written(book, e); BadBook, BadExpression, BadInputs, BadMost, TooMany(1000)."""
    machine = _worked(book, e, inputs, most)
    return (tuple(machine.events), machine.end)


def steps(book, e, inputs, most):
    """Give how many nodes were worked out in a run, None if it never ends; the errors of run."""
    machine = _worked(book, e, inputs, most)
    return None if machine.end == ("never",) else machine.steps


def need_inputs(thing):
    """BadInputs unless any value is a list of numbers from 0 to 7."""
    if not are_inputs(thing):
        raise BadInputs("this is no list of numbers from 0 to 7")


def are_inputs(thing):
    """Tell whether any value is a list of numbers from 0 to 7."""
    return isinstance(thing, (list, tuple)) and all([is_figure(one) for one in thing])


def _worked(book, e, inputs, most):
    shelf = shelf_for(book, e)
    need_inputs(inputs)
    if not is_below(most, MOST_EVENTS + 1):
        raise BadMost("this is no number from 0 to 200")
    machine = Machine(book[1], inputs, most)
    machine.work(written_on(shelf, e))
    return machine
