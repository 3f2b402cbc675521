"""Sights, put together out of those of the forms within."""

from formrules.shapes import IN_LET, kids, use_names, use_parts


class Sights:
    """Finds for a form with many rows what its part places see, never by writing out."""

    def __init__(self, shelf):
        self.shelf = shelf
        self.known = {}

    def of(self, pair):
        """Give the dict from part places to None or (always, sometimes), dicts of name places."""
        if pair not in self.known:
            for one in self.shelf.needed([pair]):
                if one not in self.known:
                    self.known[one] = self._found(one)
        return self.known[pair]

    def _found(self, pair):
        found = {place: None for place in self.shelf.part_places(pair)}
        for place, always, sometimes in self._occurrences(self.shelf.rule(pair)):
            if found[place] is not None:
                always = {one: True for one in found[place][0] if one in always}
                sometimes = joined(found[place][1], sometimes)
            found[place] = (always, sometimes)
        return found

    def _occurrences(self, rule):
        """List (place, always, sometimes) for all part places in a rule that stand."""
        found = []
        todo = [(rule, {}, {})]
        while todo:
            node, always, sometimes = todo.pop()
            if node[0] in ("part", "here"):
                found.append((node, always, sometimes))
            elif node[0] == "own":
                todo.extend(self._in_use(node, always, sometimes))
            else:
                seen = [node[1]] if node[0] == "let" and isinstance(node[1], tuple) else []
                for steps, part in kids(node):
                    here = seen if steps == IN_LET else []
                    todo.append((part, with_all(always, here), with_all(sometimes, here)))
        return found

    def _in_use(self, use, always, sometimes):
        """List the parts of a use that stand, with what they always and sometimes see there."""
        found = []
        for _, part, sure, maybe in self.parts_seen(use):
            sure = [x for x in sure if isinstance(x, tuple)]
            maybe = [x for x in maybe if isinstance(x, tuple)]
            found.append((part, with_all(always, sure), with_all(sometimes, maybe)))
        return found

    def parts_seen(self, use):
        """List (steps, part, sure, maybe) for the parts of a use that stand.

        sure and maybe list the names of the use that all, and that some copies of the part see.
        """
        sights = self.of((use[1], len(use[4])))
        names = use_names(use)
        found = []
        for place, steps, part in use_parts(use):
            if sights[place] is not None:
                always, sometimes = sights[place]
                sure = [x for at, _, x in names if at in always]
                maybe = [x for at, _, x in names if at in sometimes]
                found.append((steps, part, sure, maybe))
        return found


def with_all(some, more):
    """Give a new dict with more keys."""
    return joined(some, {one: True for one in more}) if more else some


def joined(some, more):
    """Give a new dict with the keys of both."""
    return {one: True for one in list(some) + list(more)}
