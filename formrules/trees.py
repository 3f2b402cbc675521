"""Bare forms, and what they do, told as trees."""

from formrules.books import MOST_PARTS
from formrules.errors import BadForm, BadParts
from formrules.forests import NO, YES, Forest
from formrules.guards import shelf_with
from formrules.terms import headed, is_below, is_figure
from formrules.words import is_name


def is_bare(book, name):
    """Tell whether a form is bare; BadBook, BadForm."""
    return Bares(shelf_with(book, name)).has(name)


def is_tree(parts, thing):
    """Tell whether any value is a tree over so many places; BadParts."""
    need_parts(parts)
    return is_tree_over(parts, thing)


def need_parts(thing):
    """BadParts unless any value is a number from 0 to 4."""
    if not is_below(thing, MOST_PARTS + 1):
        raise BadParts("this is no number from 0 to 4")


def is_tree_over(parts, thing):
    """Tell whether any value is a tree over so many places, as their number is known to be right."""
    todo = [thing]
    while todo:
        one = todo.pop()
        head = headed(one)
        if head == "does" and len(one) == 4 and is_below(one[1], parts):
            todo.extend(one[2:])
        elif head == "shows" and len(one) == 3 and is_figure(one[1]):
            todo.append(one[2])
        elif head == "fails":
            if len(one) != 2 or not is_name(one[1]):
                return False
        elif head not in ("yes", "no") or len(one) != 1:
            return False
    return True


def tree_of(book, name):
    """Give the tree of a bare form; BadBook, BadForm."""
    bares = Bares(shelf_with(book, name))
    if not bares.has(name):
        raise BadForm("this is no bare form")
    return bares.forest.tree(bares.number(name))


class Bares:
    """The bare forms of a shelf; forest has the trees of those that were asked for."""

    def __init__(self, shelf):
        self.shelf = shelf
        self.forest = Forest()
        self.bare = {}
        self.numbers = {}
        for name in shelf.forms:
            _, _, binds, _, row, rules = shelf.forms[name]
            if binds == 0 and row is None and self._is_template(rules[0]):
                self.bare[name] = True

    def has(self, name):
        """Tell whether a name is that of a bare form."""
        return name in self.bare

    def _is_template(self, rule):
        todo = [rule]
        while todo:
            node = todo.pop()
            if node[0] == "own":
                if node[1] not in self.bare:
                    return False
                todo.extend(node[3])
            elif node[0] == "then":
                todo.extend(node[2:] if _is_showing(node) else node[1:])
            elif node[0] == "if":
                todo.extend(node[1:])
            elif node[0] not in ("truth", "part", "fail"):
                return False
        return True

    def number(self, name):
        """Give the number of the tree of a bare form."""
        for one, _ in self.shelf.needed([(name, 0)]):
            if one not in self.numbers:
                self.numbers[one] = self.number_of(self.shelf.forms[one][5][0])
        return self.numbers[name]

    def number_of(self, node):
        """Give the number of the tree of a bare template whose forms have theirs."""
        if node[0] == "truth":
            return YES if node[1] == "yes" else NO
        if node[0] == "part":
            return self.forest.entry(("does", node[1], YES, NO))
        if node[0] == "fail":
            return self.forest.entry(("fails", node[1]))
        if node[0] == "then" and _is_showing(node):
            return self.forest.entry(("shows", node[1][1][1], self.number_of(node[2])))
        if node[0] == "own":
            parts = {i: self.number_of(part) for i, part in enumerate(node[3])}
            return self.forest.filled(self.numbers[node[1]], parts)
        first = self.number_of(node[1])
        yes = self.number_of(node[2])
        return self.forest.ended(first, yes, self.number_of(node[3]) if node[0] == "if" else yes)


def _is_showing(node):
    """Tell whether a then shows a number ahead of its second part."""
    return node[1][0] == "show" and node[1][1][0] == "number"
