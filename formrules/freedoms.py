"""Freedoms of parts: whether they vary, fail, or set, told by what they are written out as."""

from formrules.errors import BadLot, BadUse
from formrules.guards import need_expression, shelf_for, shelf_with_rows
from formrules.pairing import FREEDOMS
from formrules.schemes import is_place
from formrules.seeing import Sights
from formrules.shapes import kids, names_in, nodes_of, use_parts
from formrules.shelves import place_rank
from formrules.sides import is_use_of

HALVES = ("pair", "first", "second")
# What a node tells of the part in which it stands.
DEEDS = {"fail": "fails", "set": "sets"}
LEAVES = ("part", "here", "rest")


def is_lot(book, name, many, thing):
    """Tell whether any value is a lot of a form with many rows; BadBook, BadForm, BadMany."""
    return is_lot_of(shelf_with_rows(book, name, many), (name, many), thing)


def is_lot_of(shelf, pair, thing):
    """Tell whether any value is a lot of a form with so many rows."""
    if not isinstance(thing, tuple) or not all([_is_item(one) for one in thing]):
        return False
    ranks = [lot_rank(item) for item in thing]
    if not all([one < other for one, other in zip(ranks, ranks[1:])]):
        return False
    places = shelf.part_places(pair)
    varied = [place for place, freedom in thing if freedom == "varies"]
    return all([place in places and place in varied for place, _ in thing])


def _is_item(thing):
    if not isinstance(thing, tuple) or len(thing) != 2 or not is_place(thing[0], "part", "here"):
        return False
    return isinstance(thing[1], str) and thing[1] in FREEDOMS


def lot_rank(item):
    """Give what the items of lots are to be sorted by: places, then freedoms."""
    return place_rank(item[0]), FREEDOMS.index(item[1])


def need_lot(shelf, pair, thing):
    """BadLot unless any value is a lot of a form with so many rows."""
    if not is_lot_of(shelf, pair, thing):
        raise BadLot("this is no lot of the form")


def freedoms(book, use):
    """Give the least lot within which an own use keeps; BadBook, BadExpression, BadUse."""
    shelf = shelf_for(book, use)
    if use[0] != "own":
        raise BadUse("this is no own use")
    return Deeds(shelf).lot_of(use)


def keeps_within(book, name, many, lot, e):
    """Tell whether all uses of a form in e have many rows and keep within a lot.

    BadBook, BadForm, BadMany, BadLot, BadExpression.
    """
    shelf = shelf_with_rows(book, name, many)
    need_lot(shelf, (name, many), lot)
    need_expression(book, e)
    deeds = Deeds(shelf)
    uses = [node for _, node in nodes_of(e) if is_use_of(node, name)]
    return all([len(use[4]) == many and keeps(deeds.lot_of(use), lot) for use in uses])


def keeps(one, lot):
    """Tell whether all of one lot is in another one."""
    return all([item in lot for item in one])


class Deeds:
    """Finds which nodes that fail or set stand in what is written out, never by writing out."""

    def __init__(self, shelf):
        self.shelf = shelf
        self.sights = Sights(shelf)
        self.known = {}

    def of(self, e):
        """Give the dict of "fails" and "sets", as far as such nodes stand in what e is written out as.

        Places of a template that stand in e tell all that parts may do.
        """
        found = {}
        todo = [e]
        while todo:
            node = todo.pop()
            if node[0] in DEEDS:
                found[DEEDS[node[0]]] = True
            if node[0] == "own":
                found.update(self._of_form((node[1], len(node[4]))))
                seen = self.sights.of((node[1], len(node[4])))
                todo.extend([part for place, _, part in use_parts(node) if seen[place] is not None])
            else:
                todo.extend([part for _, part in kids(node)])
        return found

    def _of_form(self, pair):
        for one in self.shelf.needed([pair]):
            if one not in self.known:
                self.known[one] = {}
                self.known[one] = self.of(self.shelf.rule(one))
        return self.known[pair]

    def lot_of(self, use):
        """Give the least lot within which an own use keeps, in a program or in a template."""
        given = {x: True for x in names_in(use)}
        found = []
        for place, _, part in use_parts(use):
            if any([node[0] in LEAVES for _, node in nodes_of(part)]):
                found.extend([(place, freedom) for freedom in FREEDOMS])
            elif not _is_settled(part, given):
                does = self.of(part)
                found.extend([(place, freedom) for freedom in FREEDOMS if freedom == "varies" or freedom in does])
        return tuple(sorted(found, key=lot_rank))


def _is_settled(part, given):
    """Tell whether a part comes to the same each time; given has the names of its use."""
    if part[0] in ("number", "truth"):
        return True
    if part[0] == "name":
        return part[1] not in given
    return part[0] in HALVES and all([_is_settled(one, given) for _, one in kids(part)])
