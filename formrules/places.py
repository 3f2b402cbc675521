"""Places of forms, and what can come at a place of a kind."""

from formrules.errors import BadKind
from formrules.guards import shelf_with_rows
from formrules.terms import TRUTHS, is_kind


def places(book, name, many):
    """Give the pair of the tuples of name places and of part places of a form; BadBook, BadForm, BadMany."""
    shelf = shelf_with_rows(book, name, many)
    return tuple(shelf.name_places((name, many))), tuple(shelf.placed_parts((name, many)))


def outcomes(kind):
    """Give the tuple of all outcomes of a kind, things being numbered from 0 on; BadKind."""
    if not is_kind(kind):
        raise BadKind("this is no kind")
    return outcomes_from(kind, 0)


def outcomes_from(kind, first):
    """Give the tuple of all outcomes of what is known to be a kind, things being numbered from first on."""
    if kind[0] == "truth":
        return tuple([("truth", word) for word in TRUTHS])
    if kind[0] != "pair":
        return (("thing", first),)
    ones = outcomes_from(kind[1], first)
    others = outcomes_from(kind[2], first + len(things_of(kind[1])))
    return tuple([("pair", one, other) for one in ones for other in others])


def things_of(kind):
    """List the kinds of the new things that each outcome of a kind has."""
    if kind[0] == "pair":
        return things_of(kind[1]) + things_of(kind[2])
    return [] if kind[0] == "truth" else [kind]
