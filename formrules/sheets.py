"""Sheets: what a form does, told by finitely many rows."""

from formrules.errors import BadSheet
from formrules.guards import shelf_with_rows
from formrules.opened import need_answers, need_most, play_of
from formrules.places import outcomes_from, things_of
from formrules.plainguards import plain_at_work
from formrules.schemes import is_place
from formrules.scripts import SheetScript
from formrules.solving import NUMBER, TRUTH, unknowns_of
from formrules.terms import headed, is_below, is_kind, is_worth
from formrules.words import is_name

# For each head of what a row does, how many items it has.
LENGTHS = {"does": 6, "shows": 3, "asks": 2, "ends": 3, "fails": 3, "never": 1}


def is_sheet(book, name, many, thing, plain=None):
    """Tell whether any value is a sheet of a form.

    BadBook, BadForm, BadMany, TooMany(3), TooMany(100), NoPlain, BadPlain.
    """
    shelf = shelf_with_rows(book, name, many)
    return is_sheet_of(book[1], plain_at_work(shelf, name, many, plain), thing)


def sheet_played(book, name, many, sheet, answers, most, plain=None):
    """Give the pair (events, end) that a sheet plays; the errors of played, BadSheet behind BadPlain."""
    shelf = shelf_with_rows(book, name, many)
    need_answers(answers)
    need_most(most)
    told = plain_at_work(shelf, name, many, plain)
    need_sheet(book[1], told, sheet)
    kinds = dict(told[2])
    script = SheetScript(shelf.open_use((name, many)), shelf.name_places((name, many)), {(name, many): (sheet, kinds)})
    return play_of(script, book[1], kinds, answers, most)


def need_sheet(cells, told, thing):
    """BadSheet unless any value is a sheet of a form with this plain scheme."""
    if not is_sheet_of(cells, told, thing):
        raise BadSheet("this is no sheet of the form")


def is_sheet_of(cells, told, thing):
    """Tell whether any value is a sheet of a form with this plain scheme, in a book with these cells."""
    if not _is_tuple(thing, 2) or not isinstance(thing[0], tuple) or not isinstance(thing[1], tuple):
        return False
    if not thing[1] or not all([_is_tuple(row, 2) and isinstance(row[0], tuple) for row in thing[1]]):
        return False
    return SheetJudge(cells, told, thing[1]).lets(thing[0])


def _is_tuple(thing, many):
    return isinstance(thing, tuple) and len(thing) == many


class SheetJudge:
    """Judges the rows of a sheet, pairs that begin with tuples, by the cells of a book and a plain scheme."""

    def __init__(self, cells, told, rows):
        self.cells = cells
        self.names = told[1]
        self.kinds = dict(told[2])
        self.whole = told[3]
        self.rows = rows
        unknowns = [i for _, kind in told[1] + told[2] for i in unknowns_of(kind)] + unknowns_of(told[3])
        self.things = {("any", i): True for i in unknowns}

    def lets(self, first):
        """Tell whether the rows are right, and these indexes of cells for the first one."""
        if not all([self._are_kinds(kinds) for kinds, _ in self.rows]):
            return False
        if len(first) != len(self.rows[0][0]) or not all([kind == NUMBER for kind in self.rows[0][0]]):
            return False
        if not all([is_below(at, len(self.cells)) for at in first]) or not _are_different(first):
            return False
        return all([self._is_what(kinds, what) for kinds, what in self.rows])

    def _are_kinds(self, kinds):
        """Tell whether these are kinds that things can have."""
        if not all([is_kind(kind) and kind[0] in ("number", "any") for kind in kinds]):
            return False
        return all([kind == NUMBER or kind in self.things for kind in kinds])

    def _is_what(self, kinds, what):
        head = headed(what)
        if head not in LENGTHS or len(what) != LENGTHS[head]:
            return False
        if head == "does":
            return self._is_place(kinds, what)
        if head == "shows":
            return self._is_term(kinds, what[1], None) and self._is_on(kinds, [], what[2])
        if head == "asks":
            return self._is_on(kinds, [NUMBER], what[1])
        if head == "never":
            return True
        right = is_name(what[1]) if head == "fails" else self._is_term(kinds, what[1], self.whole)
        return right and self._is_held(kinds, what[2])

    def _is_place(self, kinds, what):
        _, place, seen, held, ons, catches = what
        if not is_place(place, "part", "here") or place not in self.kinds or not _is_tuple(seen, len(self.names)):
            return False
        for (_, kind), term in zip(self.names, seen):
            if term is not None and not self._is_term(kinds, term, kind):
                return False
        if not self._is_held(kinds, held) or not isinstance(catches, tuple):
            return False
        cells = [NUMBER for _ in self.cells]
        new = things_of(self.kinds[place]) + cells
        if not _is_tuple(ons, len(outcomes_from(self.kinds[place], 0))):
            return False
        if not all([self._is_on(kinds, new, on) for on in ons]) or not all([_is_tuple(one, 2) for one in catches]):
            return False
        faults = [one[0] for one in catches]
        if not all([is_name(fault) for fault in faults]):
            return False
        if not all([one < other for one, other in zip(faults, faults[1:])]):
            return False
        return all([self._is_on(kinds, cells, on) for _, on in catches])

    def _is_held(self, kinds, held):
        return _is_tuple(held, len(self.cells)) and all([self._is_term(kinds, term, NUMBER) for term in held])

    def _is_on(self, kinds, new, on):
        """Tell whether any value is an on of a row whose things have these kinds, those of new ones told, too."""
        if not _is_tuple(on, 2) or not is_below(on[0], len(self.rows)) or not isinstance(on[1], tuple):
            return False
        both = list(kinds) + new
        if not all([is_below(thing, len(both)) for thing in on[1]]) or not _are_different(on[1]):
            return False
        return [both[thing] for thing in on[1]] == list(self.rows[on[0]][0])

    def _is_term(self, kinds, term, wanted):
        """Tell whether any value is a term over things of these kinds, of a wanted kind; None: of any."""
        todo = [(term, wanted)]
        while todo:
            one, kind = todo.pop()
            if headed(one) == "pair" and len(one) == 3 and (kind is None or kind[0] == "pair"):
                todo.extend([(one[1], None), (one[2], None)] if kind is None else list(zip(one[1:], kind[1:])))
            elif not self._is_plain_term(kinds, one, kind):
                return False
        return True

    def _is_plain_term(self, kinds, term, kind):
        """Tell whether any value is a thing, a number or a truth, of a wanted kind."""
        head = headed(term)
        if head == "thing":
            return len(term) == 2 and is_below(term[1], len(kinds)) and kind in (None, kinds[term[1]])
        if head not in ("number", "truth") or not is_worth(term):
            return False
        return kind in (None, NUMBER if head == "number" else TRUTH)


def _are_different(numbers):
    return len({one: True for one in numbers}) == len(numbers)
