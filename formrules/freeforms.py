"""Forms in free runs, in which part places do as they like: their things, and lots of these."""

from formrules.dims import dim_rank, is_dim
from formrules.errors import BadGoal, BadLot
from formrules.freeruns import Frame, FreeRuns, Sums
from formrules.guards import shelf_with_rows
from formrules.plainguards import plain_at_work
from formrules.schemes import is_place
from formrules.scripts import UsesScript
from formrules.seeing import Sights
from formrules.whats import Whats


class FreeForm:
    """A form with many rows that has a plain scheme; BadBook, BadForm, BadMany, TooMany(3), TooMany(100), NoPlain.

    names and kinds tell the kinds of its name places and of its part places, in their order; seen what all
    copies of a part place see, None for one that does not stand; things lists its things in order.
    """

    def __init__(self, book, name, many):
        self.shelf = shelf_with_rows(book, name, many)
        told = plain_at_work(self.shelf, name, many, None)
        self.book = book
        self.pair = (name, many)
        self.names = {place: kind for place, kind in told[1]}
        self.kinds = {place: kind for place, kind in told[2]}
        self.whole = told[3]
        self.whats = Whats(book)
        sights = Sights(self.shelf).of(self.pair)
        self.seen = {place: None if sights[place] is None else sorted(sights[place][0]) for place in self.kinds}
        self.order = {place: at for at, place in enumerate(self.kinds)}
        self.things = self._found()
        self.indexes = {self.key(thing): at for at, thing in enumerate(self.things)}

    def _found(self):
        """List the things to which free runs come, in order."""
        runs = FreeRuns(self.shelf, Sums())
        places = Places(self, runs)
        self.result(runs, places)
        found = [(place, seen, what) for place, seen in places.met.values()
                 for what in self.whats.of_kind(self.kinds[place])]
        return sorted(found, key=self.key)

    def key(self, thing):
        """Give what things are to be sorted by, and known by."""
        place, seen, what = thing
        return self.order[place], tuple([dim_rank(dim) for _, dim in seen]), self.whats.rank(what)

    def result(self, runs, places):
        """Give the result of the form's rule if its places come to what is told."""
        script = UsesScript(self.shelf.rule(self.pair), self.shelf.name_places(self.pair))
        frame = Frame(script, places, True)
        return runs.result(frame, frame.unsaid())

    def need_goal(self, thing):
        """BadGoal unless any value is a what by its form."""
        if not self.whats.lets(thing):
            raise BadGoal("this is no what of the book")

    def need_lot(self, thing):
        """Give the list of the indexes of the things of a lot; BadLot unless any value is one."""
        if not isinstance(thing, tuple) or not all([self._is_thing(one) for one in thing]):
            raise BadLot("this is no tuple of things of the form")
        found = [self.indexes[self.key(one)] for one in thing]
        if not all([one < other for one, other in zip(found, found[1:])]):
            raise BadLot("these things are not ascending")
        return found

    def _is_thing(self, thing):
        if not isinstance(thing, tuple) or len(thing) != 3 or not isinstance(thing[1], tuple):
            return False
        place, seen, what = thing
        if not is_place(place, "part", "here") or place not in self.kinds or not self.whats.lets(what):
            return False
        if not all([isinstance(one, tuple) and len(one) == 2 and is_dim(one[1]) for one in seen]):
            return False
        if not all([is_place(at, "bind", "row") for at, _ in seen]):
            return False
        return [at for at, _ in seen] == self.seen[place] and self.key(thing) in self.indexes


class Places:
    """What the places of a form come to: here all whats, with one value; met has what was seen where."""

    def __init__(self, form, runs):
        self.form = form
        self.runs = runs
        self.met = {}

    def answer(self, place, seen):
        """Give the number of the result of a place, where just these name places are seen."""
        said = {at: self.runs.dims.told[dim] for at, dim in seen}
        there = tuple([(at, said[at]) for at in self.form.seen[place] or [] if at in said])
        return self.runs.numbered({self.runs.coded(what): value for what, value in self.coming(place, there)})

    def coming(self, place, seen):
        """List pairs (what, value) for all to which a place comes with what is always seen there."""
        self.met[(place, tuple([dim_rank(dim) for _, dim in seen]))] = (place, seen)
        return [(what, self.runs.sums.one) for what in self.form.whats.of_kind(self.form.kinds[place])]


class SomePlaces(Places):
    """Places that come to nothing but some things; table has the values of these by their keys."""

    def __init__(self, form, runs, table):
        Places.__init__(self, form, runs)
        self.table = table

    def coming(self, place, seen):
        """List pairs (what, value) for all to which a place comes with what is always seen there."""
        found = []
        for what in self.form.whats.of_kind(self.form.kinds[place]):
            key = self.form.key((place, seen, what))
            if key in self.table:
                found.append((what, self.table[key]))
        return found
