"""What several functions ask of what they are passed, with the error that each of it brings."""

from formrules.books import is_book, is_expression_of
from formrules.errors import BadBook, BadExpression, BadForm, BadMany
from formrules.shelves import Shelf
from formrules.terms import is_below, is_number

MOST_ROWS = 8


def shelf_of(book):
    """Give the shelf of a book; BadBook."""
    if not is_book(book):
        raise BadBook("this is no book")
    return Shelf(book[2])


def need_expression(book, e):
    """BadExpression unless e is an expression of what is known to be a book."""
    if not is_expression_of(book, e):
        raise BadExpression("this is no expression of the book")


def shelf_for(book, e):
    """Give the shelf of a book; BadBook; BadExpression unless e is an expression of it."""
    shelf = shelf_of(book)
    need_expression(book, e)
    return shelf


def shelf_with(book, name):
    """Give the shelf of a book; BadBook; BadForm unless name is the name of a form on it."""
    shelf = shelf_of(book)
    if not isinstance(name, str) or name not in shelf.forms:
        raise BadForm("this is no name of a form of the book")
    return shelf


def shelf_with_rows(book, name, many):
    """Give the shelf of a book; BadBook; BadForm; BadMany for rows that the form cannot have."""
    shelf = shelf_with(book, name)
    most = 0 if shelf.forms[name][4] is None else MOST_ROWS
    if not is_below(many, most + 1):
        raise BadMany("the form cannot have so many rows")
    return shelf


def is_path(thing):
    """Tell whether any value is a tuple of numbers."""
    return isinstance(thing, tuple) and all([is_number(at) for at in thing])


def are_paths(thing):
    """Tell whether any value is a tuple of tuples of numbers."""
    return isinstance(thing, tuple) and all([is_path(path) for path in thing])
