"""Tables: all cuts of a tree that can be written by a lot of bare forms."""

from formrules.errors import TooMany
from formrules.forests import NO, YES
from formrules.trees import is_tree_over
from formrules.writings import bares_with, need_tree

MOST_TREES = 40


def is_table(book, names, parts, tree, thing):
    """Tell whether any value is a table for a tree; BadBook, BadLot, BadParts, BadTree."""
    maker = _maker_for(book, names, parts, tree)
    if not isinstance(thing, (list, tuple)) or not all([is_tree_over(parts, one) for one in thing]):
        return False
    numbers = {maker.forest.put(one): True for one in thing}
    if len(numbers) != len(thing) or not all([maker.forest.is_cut(one, maker.whole) for one in numbers]):
        return False
    if not all([one in numbers for one in maker.firsts]):
        return False
    return all([made in numbers for _, _, made in maker.derived(list(numbers))])


def table(book, names, parts, tree):
    """List the trees of the least table; BadBook, BadLot, BadParts, BadTree, TooMany(40)."""
    maker = _maker_for(book, names, parts, tree)
    maker.find()
    return [maker.forest.tree(one) for one in maker.trees]


def least_writing(book, names, parts, tree):
    """Give a writing of least size with a tree, None if there is none; the errors of table."""
    maker = _maker_for(book, names, parts, tree)
    maker.find()
    return maker.least_writing()


def _maker_for(book, names, parts, tree):
    bares = bares_with(book, names)
    need_tree(parts, tree)
    return TableMaker(bares, names, parts, bares.forest.put(tree))


class TableMaker:
    """Makes the least table for a lot, so many places, and the tree of a number.

    firsts has the trees of places that are cuts, by their numbers, with the places. rules lists how trees of
    the table are made: (form, dict from the places that are done to numbers, number).
    """

    def __init__(self, bares, names, parts, whole):
        self.forest = bares.forest
        self.parts = parts
        self.whole = whole
        self.trees = []
        self.rules = []
        self.forms = {name: bares.number(name) for name in names}
        self.places = {name: bares.shelf.forms[name][3] for name in names}
        self.firsts = {}
        for i in range(parts):
            one = self.forest.entry(("does", i, YES, NO))
            if self.forest.is_cut(one, whole):
                self.firsts[one] = i

    def may_leave_out(self, names):
        """Tell whether there is any writing by some of the forms, which may stand for what is never done."""
        return self.parts != 0 or any([self.places[name] == 0 for name in names])

    def find(self):
        """Find the least table; TooMany(40)."""
        self.trees = list(self.firsts)
        many = -1
        while many != len(self.trees):
            many = len(self.trees)
            self.rules = self.derived(self.trees)
            found = {one: True for one in self.trees}
            found.update({made: True for _, _, made in self.rules})
            self.trees = list(found)
            if len(self.trees) > MOST_TREES:
                raise TooMany(MOST_TREES)

    def derived(self, trees):
        """List (form, dict from places to trees, tree that comes) for all that comes of some trees and is a cut."""
        found = []
        if not trees and not self.may_leave_out(self.forms):
            return found
        for name in self.forms:
            seen = {}
            for goal in self.forest.within(self.whole):
                for parts in self._choices(self.forms[name], goal, trees):
                    key = tuple(sorted(parts.items()))
                    if key not in seen:
                        seen[key] = True
                        found.append((name, parts, self.forest.filled(self.forms[name], parts)))
        return found

    def _choices(self, number, goal, trees):
        """List the dicts from places to trees by which what comes becomes a goal, with trees for its yes and no.

        A state is (what is still to be held against what, the dict so far, the trees for yes and no so far).
        """
        found = []
        todo = [([(number, goal)], {}, {})]
        while todo:
            due, parts, ends = todo.pop()
            while due is not None and due:
                one, its = due[-1]
                entry = self.forest.entries[one]
                if entry[0] == "does" and entry[1] not in parts:
                    fitting = [tree for tree in trees if self.forest.match(tree, its) is not None]
                    todo.extend([(list(due), _with(parts, entry[1], tree), dict(ends)) for tree in fitting[::-1]])
                    due = None
                else:
                    due = self._held(due[:-1], one, its, parts, ends)
            if due is not None:
                found.append(parts)
        return found

    def _held(self, due, number, its, parts, ends):
        """List what is still due if a tree is held against its goal; None where they do not go together."""
        entry, goal = self.forest.entries[number], self.forest.entries[its]
        if number in (YES, NO):
            return due if ends.setdefault(number, its) == its else None
        if entry[0] == "does":
            found = self.forest.match(parts[entry[1]], its)
            if found is None:
                return None
            return due + [(entry[2], one) for one in found[0]] + [(entry[3], one) for one in found[1]]
        if entry[0] == "shows":
            return due + [(entry[2], goal[2])] if entry[:2] == goal[:2] else None
        return due if number == its else None

    def written_by(self, names):
        """Give the dict of the trees of the least table for some of the forms; the table is found."""
        found = {one: True for one in self.firsts}
        if not found and not self.may_leave_out(names):
            return found
        rules = [rule for rule in self.rules if rule[0] in names]
        many = -1
        while many != len(found):
            many = len(found)
            for _, parts, made in rules:
                if made not in found and all([one in found for one in parts.values()]):
                    found[made] = True
        return found

    def least_writing(self):
        """Give a writing of least size with the whole tree, None if there is none; the table is found."""
        filler = ("part", 0)
        if self.parts == 0:
            bare = [name for name in self.forms if self.places[name] == 0]
            filler = ("own", bare[0], (), (), ()) if bare else None
        best = {one: (1, ("part", i)) for one, i in self.firsts.items()}
        changed = True
        while changed:
            changed = False
            for name, parts, made in self.rules:
                if all([one in best for one in parts.values()]):
                    size = 1 + self.places[name] - len(parts) + sum([best[one][0] for one in parts.values()])
                    if made not in best or size < best[made][0]:
                        below = [best[parts[i]][1] if i in parts else filler for i in range(self.places[name])]
                        best[made] = (size, ("own", name, (), tuple(below), ()))
                        changed = True
        return best[self.whole][1] if self.whole in best else None


def _with(parts, place, tree):
    """Give a new dict with one place more."""
    found = {at: one for at, one in parts.items()}
    found[place] = tree
    return found
