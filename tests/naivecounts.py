"""Counts of free runs by writing out, from the words of the document; nothing is taken from the package."""

import naive
from naiveruns import NO, NUMBER, OUTCOMES, YES, Form, dimmed


class TooMuch(Exception):
    """There are more counts than a plain way should list."""


class Counting(Form):
    """A form written out, with all counts, up to a sum, of the free runs of its nodes."""

    def __init__(self, book, name, many, plain, most, patience=60000):
        super().__init__(book, name, many, plain)
        self.most = most
        self.patience = patience
        self.slots = [thing for thing in self.things() if thing[2][0] in OUTCOMES]
        self.zero = (0,) * (len(self.slots) + 1)
        # Whether some loop turned in a run that comes to an outcome is told by marked counts.
        self.found = self.go(self.e, {})

    def counts(self, ending):
        return {count for count, _ in self.found.get(ending, ())}

    def turns(self, ending):
        """Tell whether a loop turns in some run with this ending, up to the sum."""
        return any(turned for _, turned in self.found.get(ending, ()))

    def plus(self, one, other):
        self.patience -= 1
        if self.patience < 0:
            raise TooMuch()
        return tuple(a + b for a, b in zip(one[0], other[0])), one[1] or other[1]

    def times(self, ones, others):
        found = {self.plus(one, other) for one in ones for other in others}
        return {one for one in found if sum(one[0]) <= self.most}

    def step(self, ones):
        unit = ((1,) + self.zero[1:], False)
        return self.times(ones, {unit})

    def go(self, e, names):
        """Give the dict from outcomes to sets of pairs (count, whether a loop turned)."""
        one = {(self.zero, False)}
        if e[0] == "leaf":
            return self.at_leaf(e[1], {x[1]: dim for x, dim in names.items() if x[0] == "at"})
        found = {}

        def add(what, counts):
            found.setdefault(what, set()).update(counts)

        def behind(counts, result):
            for what, more in result.items():
                add(what, self.times(counts, more))

        if e[0] in ("number", "truth"):
            add(("ends", dimmed(e)), one)
        elif e[0] == "name":
            if e[1] in names:
                add(("ends", names[e[1]]), one)
        elif e[0] in ("get", "ask"):
            add(("ends", NUMBER), one)
        elif e[0] == "fail":
            add(("fails", e[1]), one)
        elif e[0] == "catch":
            for what, counts in self.go(e[2], names).items():
                if what == ("fails", e[1]):
                    behind(counts, self.go(e[3], names))
                else:
                    add(what, counts)
        elif e[0] == "while":
            self.loop(e, names, add)
            return found
        else:
            self.plainly(e, names, add, behind)
        return {what: self.step(counts) for what, counts in found.items()}

    def plainly(self, e, names, add, behind):
        at = [k for k, what in enumerate(naive.ARITY[e[0]], start=1) if what == "e"]
        for what, counts in self.go(e[at[0]], names).items():
            if what[0] == "fails":
                add(what, counts)
                continue
            dim = what[1]
            if e[0] == "let":
                behind(counts, self.go(e[3], {**names, e[1]: dim}))
            elif e[0] == "if" and dim in (YES, NO):
                behind(counts, self.go(e[2 if dim == YES else 3], names))
            elif e[0] in ("first", "second") and dim[0] == "pair":
                add(("ends", dim[1 if e[0] == "first" else 2]), counts)
            elif e[0] == "show" or (e[0] == "set" and dim == NUMBER):
                add(("ends", dim), counts)
            elif e[0] in ("pair", "then", "plus", "less"):
                for other, more in self.go(e[2], names).items():
                    both = self.times(counts, more)
                    if other[0] == "fails":
                        add(other, both)
                    else:
                        for made in self.made(e[0], dim, other[1]):
                            add(("ends", made), both)

    def made(self, head, one, other):
        if head == "pair":
            return [("pair", one, other)]
        if head == "then":
            return [other]
        if one != NUMBER or other != NUMBER:
            return []
        return [NUMBER] if head == "plus" else [YES, NO]

    def loop(self, e, names, add):
        """Turn, as often as the sum lets."""
        test, body = self.go(e[1], names), self.go(e[2], names)
        come = {(self.zero, False)}
        while come:
            begun = self.step(come)
            come = set()
            for what, counts in test.items():
                here = self.times(begun, counts)
                if what[0] == "fails":
                    add(what, here)
                elif what[1] == NO:
                    add(("ends", NUMBER), here)
                elif what[1] == YES:
                    for other, more in body.items():
                        both = self.times(here, more)
                        if other[0] == "fails":
                            add(other, both)
                        else:
                            come |= {(count, True) for count, _ in both}

    def at_leaf(self, place, exact):
        seen = self.seen(place, exact)
        found = {}
        for what in self.whats(place):
            # What no run comes to has no slot.
            if (place, seen, what) in self.slots:
                at = self.slots.index((place, seen, what)) + 1
                found[what] = {(self.zero[:at] + (1,) + self.zero[at + 1:], False)}
        return found


def least(counts):
    return {count for count in counts if not any(other != count and is_within(other, count) for other in counts)}


def greatest(counts):
    return {count for count in counts if not any(other != count and is_within(count, other) for other in counts)}


def is_within(one, other):
    return all(a <= b for a, b in zip(one, other))
