"""Editions: what becomes of the forms of a book in another one with equal cells."""

from formrules.books import is_book
from formrules.errors import BadBook, BadCells, BadForm, BadMany
from formrules.expanding import Sizes
from formrules.freenames import free_names
from formrules.guards import MOST_ROWS
from formrules.least import behaviour_of
from formrules.pairing import FREEDOMS
from formrules.plainguards import need_few_rows
from formrules.plains import is_filling, weakest_plain
from formrules.seeing import Sights
from formrules.shapes import assembled, nodes_of
from formrules.shelves import Shelf
from formrules.sights import first_without_rule
from formrules.solving import NUMBER, TRUTH
from formrules.surroundings import told_apart
from formrules.terms import is_below
from formrules.weakest import CHOICES
from formrules.writing import MOST_NODES

YES = ("truth", "yes")
FAIL = ("fail", "w")
# What is put ahead of the names of forms of the new book where those of both are on one shelf.
NEW = "new "


def kept(old, new):
    """Give the ascending tuple of the names of the forms of old that new keeps; BadBook for each, BadCells."""
    return tuple(sorted(kept_shapes(old, new)))


def kept_shapes(old, new):
    """Give the dict from the names of kept forms to (binds, parts, row); BadBook for each, BadCells."""
    for book in (old, new):
        if not is_book(book):
            raise BadBook("this is no book")
    if old[1] != new[1]:
        raise BadCells("the books have unlike cells")
    ours = {form[1]: form[2:5] for form in new[2]}
    return {form[1]: form[2:5] for form in old[2] if ours.get(form[1]) == form[2:5]}


def need_kept(old, new, name, many):
    """BadBook for each book, BadCells, BadForm unless name is one of a kept form, BadMany."""
    shapes = kept_shapes(old, new)
    if not isinstance(name, str) or name not in shapes:
        raise BadForm("this is no name of a kept form")
    if not is_below(many, 1 + (0 if shapes[name][2] is None else MOST_ROWS)):
        raise BadMany("the form cannot have so many rows")


def fares(old, new, name, many):
    """Give how a kept form fares: open, scope, kinds, does, or same, the first that holds.

    BadBook, BadBook, BadCells, BadForm, BadMany, TooMany(3), TooMany(100), TooMany(200).
    """
    need_kept(old, new, name, many)
    return (Editions(old, new, name, many).fares(),)


def wronged(old, new, name, many):
    """Give None for open and same, otherwise a pair (program, inputs) that goes wrong by new; the errors of fares."""
    need_kept(old, new, name, many)
    editions = Editions(old, new, name, many)
    word = editions.fares()
    if word == "scope":
        return editions.unclosed(), []
    if word == "kinds":
        return editions.unkind(), []
    return editions.unlike() if word == "does" else None


class Editions:
    """A kept form with many rows in two books; TooMany(3), TooMany(100).

    shelves, sights and plains have what is told of it by old, then by new. As two sides of one book it has a
    shelf with the forms of both, those of new by other names, and told, the plain scheme by old.
    """

    def __init__(self, old, new, name, many):
        need_few_rows(many)
        self.book = old
        self.name = name
        self.many = many
        self.other = NEW + name
        self.shelves = [Shelf(old[2]), Shelf(new[2])]
        self.sights = [Sights(shelf).of((name, many)) for shelf in self.shelves]
        self.plains = [weakest_plain(shelf, name, many) for shelf in self.shelves]
        self.told = self.plains[0]
        self.shelf = Shelf(old[2] + tuple([_renamed(form) for form in new[2]]))

    def fares(self):
        """Give the word that tells how the form fares; TooMany(200)."""
        if self.told is None or any([first_without_rule(sights) is not None for sights in self.sights]):
            return "open"
        if self._unseen() is not None:
            return "scope"
        if self.plains[1] is None or not is_filling(self.plains[1], self.told):
            return "kinds"
        sheets = [behaviour_of(shelf, self.book[1], self.name, self.many, self.told) for shelf in self.shelves]
        return "same" if sheets[0] == sheets[1] else "does"

    def _unseen(self):
        """Give a part place that stands in new, and a name place that it sees in old alone, None for any name."""
        old, new = self.sights
        for place in sorted(new):
            if new[place] is not None:
                if old[place] is None:
                    return place, None
                for at in sorted(old[place][0]):
                    if at not in new[place][0]:
                        return place, at
        return None

    def unclosed(self):
        """Give a program in which a part reads a name that by new it does not see."""
        place, at = self._unseen()
        names = self._names()
        x = names["other"] if at is None else names[at]
        parts = {one: FAIL for one, _ in self.told[2]}
        parts[place] = ("then", ("name", x), FAIL)
        return self._use(names, parts)

    def _names(self):
        """Give the dict from the name places to names, and from "other" to one more."""
        places = [place for place, _ in self.told[1]] + ["other"]
        return {place: x for place, x in zip(places, free_names({}, len(places)))}

    def _use(self, names, parts):
        nodes = [node for _, node in nodes_of(self.shelves[0].open_use((self.name, self.many)))]
        return assembled(nodes, names, parts)

    def unkind(self):
        """Give a program whose parts have just the kinds that the form has by old, which by new it cannot have.

        Each part reads all names, with the kinds told for them, around the use as well as in it.
        """
        filled = _telling_filling(self.plains[1], self.told)
        names = self._names()
        kinds = {place: _filled(kind, filled) for place, kind in self.told[1] + self.told[2]}
        parts = {}
        for place, _ in self.told[2]:
            part = _worth_of(kinds[place])
            for at, _ in self.told[1]:
                part = ("then", _pinned(("name", names[at]), kinds[at]), part)
            parts[place] = part
        e = _pinned(self._use(names, parts), _filled(self.told[3], filled))
        for at, _ in self.told[1]:
            e = ("let", names[at], _worth_of(kinds[at]), e)
        return e

    def unlike(self):
        """Give a program, and inputs, that shows unlike by new: around its use it binds all names, too.

        Where the parts that may do all make it too great, each may do as little as tells.
        """
        found = told_apart(self, None)
        if max([Sizes(shelf).of(found[0]) for shelf in self.shelves]) <= MOST_NODES:
            return found
        allowed = {place: FREEDOMS for place, _ in self.told[2]}
        for place in list(allowed):
            least = {at: its for at, its in allowed.items()}
            for choice in CHOICES[::-1]:
                less = {at: choice if at == place else its for at, its in allowed.items()}
                if told_apart(self, less) is not None:
                    least = less
            allowed = least
        return told_apart(self, allowed)


def _renamed(form):
    """Give a form of the new book by the names that forms have on the shelf of both."""
    rules = []
    for rule in form[5]:
        nodes = [node for _, node in nodes_of(rule)]
        nodes = [node[:1] + (NEW + node[1],) + node[2:] if node[0] == "own" else node for node in nodes]
        rules.append(assembled(nodes, {}, {}))
    return form[:1] + (NEW + form[1],) + form[2:5] + (tuple(rules),)


def _pinned(e, kind):
    """Give an expression that has a kind only if another one has just this kind."""
    return ("if", YES, e, _worth_of(kind))


def _worth_of(kind):
    """Give an expression of just this kind."""
    if kind[0] == "pair":
        return ("pair", _worth_of(kind[1]), _worth_of(kind[2]))
    return YES if kind[0] == "truth" else ("number", 0)


def _filled(kind, filled):
    """Give a kind with its unknowns filled as a dict tells, all others by numbers."""
    if kind[0] == "pair":
        return ("pair", _filled(kind[1], filled), _filled(kind[2], filled))
    return filled.get(kind[1], NUMBER) if kind[0] == "any" else kind


def _telling_filling(one, other):
    """Give kinds for unknowns of a plain scheme by which it is no filling of one of which it is none."""
    known = {}
    todo = [] if one is None else [(one[3], other[3])]
    for at in (1, 2):
        todo.extend([(mine, its) for (_, mine), (_, its) in zip(one[at] if one else (), other[at])])
    while todo:
        mine, its = todo.pop()
        if mine[0] == "any":
            if known.setdefault(mine[1], its) != its:
                return _parting(known[mine[1]], its)
        elif its[0] == "any":
            return {its[1]: _unlike(mine)}
        elif mine[0] != its[0]:
            return {}
        elif mine[0] == "pair":
            todo.extend([(mine[1], its[1]), (mine[2], its[2])])
    return {}


def _parting(one, other):
    """Give kinds for unknowns of two unlike kinds by which they stay unlike."""
    while one[0] == "pair" and other[0] == "pair":
        one, other = (one[1], other[1]) if one[1] != other[1] else (one[2], other[2])
    if one[0] == "any" and other[0] == "any":
        return {one[1]: TRUTH}
    if one[0] == "any":
        return {one[1]: _unlike(other)}
    return {other[1]: _unlike(one)} if other[0] == "any" else {}


def _unlike(kind):
    """Give a kind that is unlike a kind at its head."""
    return TRUTH if kind[0] == "number" else NUMBER
