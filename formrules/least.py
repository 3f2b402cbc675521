"""Least sheets, and behaviours."""

from formrules.exploring import Explorer
from formrules.guards import shelf_with_rows
from formrules.merging import Merger, need_few
from formrules.plainguards import plain_at_work
from formrules.scripts import written_script
from formrules.sheets import need_sheet


def least(book, name, many, sheet, plain=None):
    """Give the least sheet that plays the same as a sheet of a form.

    BadBook, BadForm, BadMany, TooMany(3), TooMany(100), NoPlain, BadPlain, BadSheet, TooMany(200).
    """
    shelf = shelf_with_rows(book, name, many)
    need_sheet(book[1], plain_at_work(shelf, name, many, plain), sheet)
    return Merger(sheet[1]).least(0, sheet[0])


def behaviour(book, name, many, plain=None):
    """Give the least sheet that plays as a form; the errors of least but BadSheet."""
    shelf = shelf_with_rows(book, name, many)
    told = plain_at_work(shelf, name, many, plain)
    return behaviour_of(shelf, book[1], name, many, told)


def behaviour_of(shelf, cells, name, many, told):
    """Give the least sheet that plays as a form by a plain scheme; TooMany(200)."""
    return least_of(written_script(shelf, (name, many), ()), cells, told)


def least_of(script, cells, told):
    """Give the least sheet that plays as a script does by a plain scheme; TooMany(200)."""
    explorer = Explorer(script, cells, dict(told[2]), {})
    start, things = explorer.start({}, [])
    return Merger(explorer.all_rows(start, need_few)).least(start, things)
