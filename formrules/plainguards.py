"""What functions that go by a plain scheme ask of it, with the error that each of it brings."""

from formrules.errors import BadPlain, NoPlain, TooMany
from formrules.plains import is_filling, is_plain, weakest_plain

MOST_OPEN_ROWS = 3


def need_few_rows(many):
    """TooMany(3) for more than three rows."""
    if many > MOST_OPEN_ROWS:
        raise TooMany(MOST_OPEN_ROWS)


def plain_at_work(shelf, name, many, wanted):
    """Give the plain scheme that a form goes by; TooMany(3), TooMany(100), NoPlain, BadPlain.

    wanted is None, for the form's own one, or any value.
    """
    need_few_rows(many)
    return filling_of(needed_plain(shelf, name, many), wanted)


def needed_plain(shelf, name, many):
    """Give the weakest plain scheme of a form; TooMany(100), NoPlain."""
    found = weakest_plain(shelf, name, many)
    if found is None:
        raise NoPlain("the form has no plain scheme")
    return found


def filling_of(told, wanted):
    """Give what is wanted, a plain scheme itself for None; BadPlain unless it is a filling of that one."""
    if wanted is None:
        return told
    if not is_plain(wanted) or not is_filling(told, wanted):
        raise BadPlain("this is no filling of the plain scheme")
    return wanted
