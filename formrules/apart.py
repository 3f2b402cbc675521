"""Where two forms play apart first."""

from formrules.errors import BadForm, BadMany, NoPlain, OtherPlaces
from formrules.guards import MOST_ROWS, shelf_of
from formrules.pairing import Plays
from formrules.plainguards import filling_of, need_few_rows
from formrules.plains import common, weakest_plain
from formrules.terms import is_below


def first_apart(book, one, other, many, plain=None):
    """Give None if two forms play the same, otherwise the least (answers, at) ahead of something unlike.

    BadBook, BadForm for each, BadMany, OtherPlaces, TooMany(3), TooMany(100), NoPlain, BadPlain.
    """
    shelf = shelf_of(book)
    for name in (one, other):
        if not isinstance(name, str) or name not in shelf.forms:
            raise BadForm("this is no name of a form of the book")
    for name in (one, other):
        if not is_below(many, 1 + (0 if shelf.forms[name][4] is None else MOST_ROWS)):
            raise BadMany("a form cannot have so many rows")
    if shelf.open_use((one, many))[2:] != shelf.open_use((other, many))[2:]:
        raise OtherPlaces("the forms have other places")
    need_few_rows(many)
    plains = [weakest_plain(shelf, name, many) for name in (one, other)]
    both = None if None in plains else common(plains[0], plains[1])
    if both is None:
        raise NoPlain("the forms have no common plain scheme")
    plays = Plays(shelf, book[1], [(one, many), (other, many)], filling_of(both, plain), None)
    found = plays.first_unlike()
    if found is None:
        return None
    return tuple([answer for answer, _ in found[1] if answer is not None]), len(found[1]) - 1
