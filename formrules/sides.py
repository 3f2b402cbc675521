"""Sides: two forms that may stand for one another."""

from formrules.errors import BadForm, BadMany, NoPlain, OtherPlaces, TooMany
from formrules.guards import MOST_ROWS, need_expression, shelf_of
from formrules.kindtables import MOST_SEATS
from formrules.plainguards import need_few_rows
from formrules.plains import common, weakest_plain
from formrules.shapes import assembled, nodes_of
from formrules.terms import is_below


def exchanged(book, name, other, e):
    """Give e with other in the place of name in each own use; BadBook, BadForm, BadForm, OtherPlaces, BadExpression."""
    shelf_with_sides(book, name, other)
    need_expression(book, e)
    return with_other(name, other, e)


def with_other(name, other, e):
    """Give an expression with another form in the place of one, in each own use of it."""
    nodes = [node for _, node in nodes_of(e)]
    return assembled([_called(node, other) if is_use_of(node, name) else node for node in nodes], {}, {})


def _called(use, other):
    return use[:1] + (other,) + use[2:]


def is_use_of(node, name):
    """Tell whether a node is an own use of a form."""
    return node[0] == "own" and node[1] == name


def shelf_with_sides(book, name, other):
    """Give the shelf of a book; BadBook; BadForm for each name of no form; OtherPlaces unless they are sides."""
    shelf = shelf_of(book)
    for one in (name, other):
        if not isinstance(one, str) or one not in shelf.forms:
            raise BadForm("this is no name of a form of the book")
    if shelf.forms[name][2:5] != shelf.forms[other][2:5]:
        raise OtherPlaces("these forms are no sides")
    return shelf


class Sides:
    """Two forms of a book with a number of rows; BadBook, BadForm, BadForm, OtherPlaces, BadMany, NoPlain.

    told is their common plain scheme, None where a scheme is refused.
    """

    def __init__(self, book, name, other, many):
        self.shelf = shelf_with_sides(book, name, other)
        if not is_below(many, 1 + (0 if self.shelf.forms[name][4] is None else MOST_ROWS)):
            raise BadMany("the forms cannot have so many rows")
        self.book = book
        self.name = name
        self.other = other
        self.many = many
        self.told = self._told()

    def _told(self):
        found, refused = [], False
        for name in (self.name, self.other):
            try:
                found.append(weakest_plain(self.shelf, name, self.many))
            except TooMany:
                refused = True
        both = None if refused or None in found else common(found[0], found[1])
        if None in found or (both is None and not refused):
            raise NoPlain("the forms have no common plain scheme")
        return both

    def need_few(self):
        """TooMany(3) for more than three rows, TooMany(100) where a scheme is refused."""
        need_few_rows(self.many)
        if self.told is None:
            raise TooMany(MOST_SEATS)
