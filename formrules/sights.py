"""What the part places of a form see of its name places."""

from formrules.errors import NoRule
from formrules.guards import shelf_with, shelf_with_rows
from formrules.seeing import Sights

# Two rows tell all: no more rows than these need to be looked at.
TELLING_ROWS = 2


def sights(book, name, many):
    """Tell for each part place what it always and sometimes sees; BadBook, BadForm, BadMany."""
    found = Sights(shelf_with_rows(book, name, many)).of((name, many))
    return {place: _pair_of(found[place]) for place in sorted(found)}


def _pair_of(seen):
    return None if seen is None else (tuple(sorted(seen[0])), tuple(sorted(seen[1])))


def rule(book, name, many):
    """Tell for each part place what it sees; the errors of sights, NoRule(place)."""
    found = sights(book, name, many)
    place = first_without_rule(found)
    if place is not None:
        raise NoRule(place)
    return {one: None if found[one] is None else found[one][0] for one in found}


def first_without_rule(found):
    """Give the least part place that sometimes sees more than always, None if there is none."""
    for place in sorted(found):
        if found[place] is not None and len(found[place][0]) != len(found[place][1]):
            return place
    return None


def has_rule(book, name):
    """Tell whether a form has a rule for every number of rows; BadBook, BadForm."""
    return first_unruly(shelf_with(book, name), name) is None


def first_unruly(shelf, name):
    """Give the least number of rows for which a form has no rule, None if it has one for all."""
    seen = Sights(shelf)
    rows = 1 if shelf.forms[name][4] is None else TELLING_ROWS + 1
    for many in range(rows):
        if first_without_rule(seen.of((name, many))) is not None:
            return many
    return None
