"""Behaviours put together out of those of the forms within."""

from formrules.errors import BadSheets, NoPlain
from formrules.guards import shelf_with_rows
from formrules.least import least_of
from formrules.plainguards import need_few_rows
from formrules.plains import weakest_plain
from formrules.scripts import SheetScript
from formrules.sheets import is_sheet_of
from formrules.terms import is_number


def within(book, name, many):
    """Give the ascending tuple of the pairs (form, number of rows) within a template; BadBook, BadForm, BadMany."""
    return _within(shelf_with_rows(book, name, many), (name, many))


def _within(shelf, pair):
    return tuple(sorted({one: True for one in shelf.within(pair)}))


def put_together(book, name, many, sheets):
    """Give the least sheet of a template in which the forms within play as their sheets say.

    BadBook, BadForm, BadMany, TooMany(3), TooMany(100), NoPlain, BadSheets, TooMany(200).
    """
    shelf = shelf_with_rows(book, name, many)
    inner = _within(shelf, (name, many))
    pairs = [(name, many)] + list(inner)
    for _, rows in pairs:
        need_few_rows(rows)
    plains = {pair: weakest_plain(shelf, pair[0], pair[1]) for pair in pairs}
    if None in list(plains.values()):
        raise NoPlain("the form, or one within, has no plain scheme")
    if not _are_sheets(book[1], plains, inner, sheets):
        raise BadSheets("these are no sheets of the forms within")
    played = {pair: (sheets[pair], dict(plains[pair][2])) for pair in inner}
    script = SheetScript(shelf.rule((name, many)), shelf.name_places((name, many)), played)
    return least_of(script, book[1], plains[(name, many)])


def _are_sheets(cells, plains, inner, thing):
    """Tell whether any value is a dict from just these pairs to sheets by their plain schemes."""
    if not isinstance(thing, dict) or len(thing) != len(inner):
        return False
    for pair in list(thing):
        if not isinstance(pair, tuple) or pair not in inner or not is_number(pair[1]):
            return False
    return all([is_sheet_of(cells, plains[pair], thing[pair]) for pair in inner])
