"""Forms with rows: whether they have a scheme with any number of rows."""

from formrules.errors import NoRows, TooMany
from formrules.finding import Schemes
from formrules.guards import MOST_ROWS, shelf_with
from formrules.kindtables import MOST_SEATS, KindReader, KindTable
from formrules.moulds import mould_of
from formrules.shapes import assembled, nodes_of

YES = ("truth", "yes")
# Rest has one kind wherever it stands, as a name that is read free has; no name is called so.
REST = ("name", "rest")
# No kind of so many nodes can be told.
GREAT = 100000


def even_kind(book, name):
    """Give the weakest kind with which a form is even, None if there is none.

    BadBook, BadForm, NoRows, TooMany(100) for the forms within.
    """
    shelf = _shelf_with_rows_of(book, name)
    none, first = [_with_rest_named(rule) for rule in shelf.forms[name][5]]
    both = ("if", YES, none, ("if", YES, first, REST))
    mould = mould_of(Schemes(shelf).for_uses(both), both)
    if mould is None:
        return None
    if not mould.solution.opened(mould.whole, GREAT):
        raise TooMany(MOST_SEATS)
    table = KindTable()
    return table.told([KindReader(mould.solution, table).read(mould.whole)])[0]


def _shelf_with_rows_of(book, name):
    shelf = shelf_with(book, name)
    if shelf.forms[name][4] is None:
        raise NoRows("the form has no rows")
    return shelf


def _with_rest_named(rule):
    return assembled([node for _, node in nodes_of(rule)], {}, {("rest",): REST})


def first_uneven(book, name):
    """Give the least number of rows up to 8 with which a form has no scheme, None without one.

    BadBook, BadForm, NoRows, TooMany(100) if a scheme ahead of that is refused.
    """
    schemes = Schemes(_shelf_with_rows_of(book, name))
    for many in range(MOST_ROWS + 1):
        if schemes.of((name, many)) is None:
            return many
    return None
