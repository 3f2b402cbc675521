"""Judging of any value: expressions and templates, but for what a template reads."""

from formrules.shapes import FIELDS
from formrules.terms import headed, is_below, is_figure, is_truth_word
from formrules.words import is_name


class Judge:
    """Judges expressions by cells (None: any) and shapes of forms; templates by places, too.

    A shape is the triple (binds, parts, row) of a form. places is None for expressions, for
    templates the shape of their form, with None for row in a template for no rows.
    """

    def __init__(self, cells, shapes, places):
        self.cells = cells
        self.shapes = shapes
        self.places = places

    def lets(self, thing):
        """Tell whether any value is such an expression or template."""
        todo = [thing]
        while todo:
            below = self._below(todo.pop())
            if below is None:
                return False
            todo.extend(below)
        return True

    def _below(self, thing):
        """List what must be judged within a node, None if it is none."""
        head = headed(thing)
        if head == "own":
            return self._below_use(thing)
        if head in FIELDS:
            return self._below_core(thing)
        if self.places is not None and self._is_leaf(thing, head):
            return []
        return None

    def _below_core(self, thing):
        fields = FIELDS[thing[0]]
        if len(thing) != len(fields) + 1:
            return None
        if self.places is not None and thing[0] in ("plus", "less"):
            return None
        below = []
        for item, field in zip(thing[1:], fields):
            if field == "part":
                below.append(item)
            elif not self._is_item(item, field):
                return None
        return below

    def _is_item(self, item, field):
        if field == "figure":
            return is_figure(item)
        if field == "word":
            return is_truth_word(item)
        if field == "fault":
            return is_name(item)
        if field == "cell":
            return is_name(item) and (self.cells is None or item in self.cells)
        return self._may_be_name(item)

    def _may_be_name(self, thing):
        if self.places is None:
            return is_name(thing)
        binds, _, row = self.places
        head = headed(thing)
        if head == "bind":
            return len(thing) == 2 and is_below(thing[1], binds)
        if head == "row" and row is not None:
            return len(thing) == 2 and is_below(thing[1], row[0])
        return is_name(thing)

    def _is_leaf(self, thing, head):
        _, parts, row = self.places
        if head == "part":
            return len(thing) == 2 and is_below(thing[1], parts)
        if row is None:
            return False
        if head == "here":
            return len(thing) == 2 and is_below(thing[1], row[1])
        return head == "rest" and len(thing) == 1

    def _below_use(self, thing):
        if len(thing) != 5 or not is_name(thing[1]) or thing[1] not in self.shapes:
            return None
        binds, parts, row = self.shapes[thing[1]]
        if not _has(thing[2:4], binds, parts) or not isinstance(thing[4], tuple):
            return None
        if row is None and thing[4]:
            return None
        names, below = list(thing[2]), list(thing[3])
        for one in thing[4]:
            if not _has(one, row[0], row[1]):
                return None
            names.extend(one[0])
            below.extend(one[1])
        return below if self._are_names(names) else None

    def _are_names(self, names):
        """Tell whether these are names, and all different."""
        if not all([self._may_be_name(x) for x in names]):
            return False
        return len({x: True for x in names}) == len(names)


def _has(thing, binds, parts):
    """Tell whether any value is a pair of tuples of so many items."""
    if not isinstance(thing, tuple) or len(thing) != 2:
        return False
    names, below = thing
    if not isinstance(names, tuple) or not isinstance(below, tuple):
        return False
    return len(names) == binds and len(below) == parts
