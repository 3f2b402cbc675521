"""Where comes from what is seen at a place, and what a form gives."""

from formrules.errors import BadPlace
from formrules.guards import shelf_with_rows
from formrules.least import behaviour_of
from formrules.merging import ons_of, terms_of
from formrules.places import things_of
from formrules.plainguards import plain_at_work
from formrules.schemes import is_place


def sources(book, name, many, place, plain=None):
    """Give the pair (seen, held) of the tuples of all patterns that come at a part place.

    BadBook, BadForm, BadMany, BadPlace, TooMany(3), TooMany(100), NoPlain, BadPlain, TooMany(200).
    """
    shelf = shelf_with_rows(book, name, many)
    if not is_place(place, "part", "here") or place not in shelf.part_places((name, many)):
        raise BadPlace("this is no part place of the form")
    tracer = _traced(shelf, book[1], name, many, plain)
    seen = [_sorted(tracer.patterns(place, at)) for at in range(len(tracer.names))]
    held = [_sorted(tracer.patterns(place, len(seen) + at)) for at in range(len(book[1]))]
    return tuple(seen), tuple(held)


def gives(book, name, many, plain=None):
    """Give the tuple of all patterns of what a form ends with; the errors of sources but BadPlace."""
    tracer = _traced(shelf_with_rows(book, name, many), book[1], name, many, plain)
    return _sorted(tracer.patterns(None, 0))


def _traced(shelf, cells, name, many, plain):
    told = plain_at_work(shelf, name, many, plain)
    return Tracer(cells, told, behaviour_of(shelf, cells, name, many, told))


def _sorted(patterns):
    """Give the tuple of all patterns, each once, in the order of their texts."""
    return tuple(sorted(patterns, key=lambda pattern: repr(pattern)))


class Tracer:
    """Follows where the things of a sheet's rows come from.

    A standing is a row with the source of each of its things.
    """

    def __init__(self, cells, told, sheet):
        self.cells = cells
        self.names = told[1]
        self.kinds = dict(told[2])
        self.rows = sheet[1]
        self.known = {}
        todo = [(0, tuple([("cell", cells[at]) for at in sheet[0]]))]
        while todo:
            standing = todo.pop()
            if standing not in self.known:
                self.known[standing] = True
                todo.extend(self._behind(standing))

    def _behind(self, standing):
        """List the standings that come behind one."""
        row, held = standing
        what = self.rows[row][1]
        found = []
        for at, (target, things) in enumerate(ons_of(what)):
            both = list(held) + self._new(what, at)
            found.append((target, tuple([both[thing] for thing in things])))
        return found

    def _new(self, what, at):
        """List the sources of the new things of an on of a row, ons counted through."""
        if what[0] != "does":
            return [("asked",)]
        many = len(things_of(self.kinds[what[1]])) if at < len(what[4]) else 0
        return [("gave", what[1], j) for j in range(many)] + [("left", what[1], cell) for cell in self.cells]

    def patterns(self, place, at):
        """List the patterns of the term at an index where a place is done, None: where the form ends."""
        found = []
        for row, held in self.known:
            what = self.rows[row][1]
            if what[0] == ("ends" if place is None else "does") and place in (None, what[1]):
                pattern = _pattern(terms_of(what)[at], held)
                if pattern not in found:
                    found.append(pattern)
        return found


def _pattern(term, held):
    """Give a term with sources in the place of its things."""
    if term is None:
        return None
    if term[0] == "pair":
        return ("pair", _pattern(term[1], held), _pattern(term[2], held))
    return held[term[1]] if term[0] == "thing" else term
