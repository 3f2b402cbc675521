"""Where reads are led to, and forms in which this is unclear."""

from formrules.books import is_core, is_expression_of
from formrules.freenames import free_names
from formrules.guards import MOST_ROWS, is_path, shelf_for, shelf_with
from formrules.layers import led
from formrules.seeing import Sights
from formrules.shapes import use_parts
from formrules.sights import first_unruly, first_without_rule


def binders(book, e):
    """Tell for each read of e which binders its copies are led to; BadBook, BadExpression."""
    return led(shelf_for(book, e), e)


def no_rule(book, name):
    """Give None for a form with a rule, otherwise a use and an unclear read; BadBook, BadForm."""
    shelf = shelf_with(book, name)
    many = first_unruly(shelf, name)
    if many is None:
        return None
    found = Sights(shelf).of((name, many))
    place = first_without_rule(found)
    always, sometimes = found[place]
    unclear = min([one for one in sometimes if one not in always])
    return _use_reading(shelf, (name, many), place, unclear)


def _use_reading(shelf, pair, place, unclear):
    """Give a use in which just the part at a place reads just the name given at another place."""
    at_names = shelf.name_places(pair)
    given = {at: x for at, x in zip(at_names, free_names({}, len(at_names)))}
    parts = {at: ("number", 0) for at in shelf.part_places(pair)}
    parts[place] = ("name", given[unclear])
    _, name, binds, many_parts, row, _ = shelf.forms[pair[0]]
    rows = []
    for k in range(pair[1]):
        names = tuple([given[("row", k, j)] for j in range(row[0])])
        rows.append((names, tuple([parts[("here", k, i)] for i in range(row[1])])))
    names = tuple([given[("bind", j)] for j in range(binds)])
    use = ("own", name, names, tuple([parts[("part", i)] for i in range(many_parts)]), tuple(rows))
    spot = [steps + (1,) for at, steps, _ in use_parts(use) if at == place][0]
    return use, spot


def is_unclear(book, name, thing):
    """Tell whether any value is a use of the form and an unclear read of it; BadBook, BadForm."""
    shelf = shelf_with(book, name)
    if not isinstance(thing, tuple) or len(thing) != 2:
        return False
    use, spot = thing
    if not is_expression_of(book, use) or use[0] != "own" or use[1] != name or not is_path(spot):
        return False
    if len(use[4]) > MOST_ROWS or not all([is_core(part) for _, _, part in use_parts(use)]):
        return False
    return len(led(shelf, use).get(spot, ())) > 1
