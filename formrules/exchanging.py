"""Exchanging one form for another one where this is never seen, in programs and in books."""

from formrules.books import is_book
from formrules.errors import BadExpression, BadPath, FormError, TooMany
from formrules.freedoms import Deeds, keeps
from formrules.guards import is_path, need_expression
from formrules.kindtables import MOST_SEATS
from formrules.shapes import nodes_of, with_thing_at
from formrules.sides import Sides, is_use_of, shelf_with_sides
from formrules.surroundings import is_program
from formrules.weakest import MOST_PLACES, Lots, need_few_places


def may_exchange(book, name, other, many, e):
    """Give the ascending tuple of the paths of the uses in e that may be exchanged, each by itself.

    The errors of sides, BadExpression for no program with a kind ahead of TooMany(3), TooMany(4) behind all.
    """
    sides = Sides(book, name, other, many)
    need_expression(book, e)
    refused = _is_refused(book, e)
    sides.need_few()
    if refused:
        raise TooMany(MOST_SEATS)
    need_few_places(sides)
    lots = Lots(sides).same
    deeds = Deeds(sides.shelf)
    found = []
    for path, node in nodes_of(e):
        if is_use_of(node, name) and len(node[4]) == many:
            lot = deeds.lot_of(node)
            if any([keeps(lot, one) for one in lots]) and is_program(book, _exchanged(e, path, other)):
                found.append(path)
    return tuple(sorted(found))


def _is_refused(book, e):
    """Tell whether the kind of a program is refused as too great; BadExpression for no program that has a kind."""
    try:
        if not is_program(book, e):
            raise BadExpression("this is no program that has a kind")
    except TooMany:
        return True
    return False


def _exchanged(e, path, other):
    """Give e with another form in the place of that of the own use at a path."""
    return with_thing_at(e, path + (1,), other)


def exchanged_at(book, name, other, e, path):
    """Give e with other in the place of name in the use at a path.

    BadBook, BadForm, BadForm, OtherPlaces, BadExpression, BadPath.
    """
    shelf_with_sides(book, name, other)
    need_expression(book, e)
    uses = {at: True for at, node in nodes_of(e) if is_use_of(node, name)}
    if not is_path(path) or path not in uses:
        raise BadPath("this is no path of a use of the form")
    return _exchanged(e, path, other)


def exchanged_book(book, name, other):
    """Give a book with other in the place of name where this is never seen; BadBook, BadForm, BadForm, OtherPlaces."""
    shelf = shelf_with_sides(book, name, other)
    behind = max(shelf.order[name], shelf.order[other]) + 1
    chosen = Exchanges(book, shelf, name, other)
    made = book
    for at in range(behind, len(book[2])):
        for k, rule in enumerate(book[2][at][5]):
            for path, node in nodes_of(rule):
                if is_use_of(node, name) and chosen.lets(node):
                    longer = with_thing_at(made, (2, at, 5, k) + path + (1,), other)
                    made = longer if is_book(longer) else made
    return made


class Exchanges:
    """Tells which uses of a form in templates may become uses of another one.

    lots has the greatest lots under which both forms are the same, by numbers of rows.
    """

    def __init__(self, book, shelf, name, other):
        self.book = book
        self.shelf = shelf
        self.name = name
        self.other = other
        self.deeds = Deeds(shelf)
        self.lots = {}

    def lets(self, use):
        """Tell whether a use keeps within a lot under which both forms are the same."""
        many = len(use[4])
        if many not in self.lots:
            self.lots[many] = self._lots(many)
        lot = self.deeds.lot_of(use)
        return any([keeps(lot, one) for one in self.lots[many]])

    def _lots(self, many):
        """Give the greatest lots with so many rows, none where the sides raise an error or are too great."""
        if len(self.shelf.part_places((self.name, many))) > MOST_PLACES:
            return ()
        try:
            sides = Sides(self.book, self.name, self.other, many)
            sides.need_few()
            return Lots(sides).same
        except FormError:
            return ()
