"""Runs under deeds, step by step, from the words of the document; nothing is taken from the package."""

import itertools

import naive

from naiveruns import numbered

TRUTH = ("truth",)


class Due(Exception):
    """A step is due where none is left: ("asks",), or ("does", place)."""


class Acted(naive.Runner):
    """Runs a template written out with its places as leaves, as steps tell."""

    def __init__(self, cells, numbers, steps):
        super().__init__(cells, [], 10 ** 6, patience=3000)
        self.cells = dict(zip(cells, numbers))
        self.left = list(steps)
        self.line = []

    def next(self, due):
        if not self.left:
            raise Due(due)
        return self.left.pop(0)

    def go(self, e, names):
        if e[0] == "ask":
            self.count()
            step = self.next(("asks",))
            if step[0] != "asked":
                raise naive.End(("wrong",))
            return ("number", step[1])
        if e[0] != "leaf":
            worth = super().go(e, names)
            if e[0] == "show" and worth[0] == "number":
                self.line.append(worth[1])
            return worth
        step = self.next(("does", e[1]))
        if step[0] != "done" or step[1][0] != e[1]:
            raise naive.End(("wrong",))
        _, (_, outcome, line), worth, cells = step
        self.line.extend(line)
        self.cells = dict(zip(self.cells, cells))
        if outcome[0] == "fails":
            raise naive.Fault(outcome[1])
        return worth if outcome == ("ends",) else ("truth", outcome[0])


class Story:
    """The runs of a form under deeds."""

    def __init__(self, book, name, many, plain, wish):
        self.cells, self.wish = book[1], wish
        form = [form for form in book[2] if form[1] == name][0]
        use = naive.open_use(form, many, lambda place: ("at", place), lambda place: ("leaf", place))
        self.e = naive.Expander(book).outermost(use)
        self.kinds = {place: numbered(kind) for place, kind in plain[2]}
        self.whole = plain[3]

    def lets(self, outcome, line):
        station = 0
        for one in line:
            station = self.wish[1][station][one]
        return any(one == outcome and station in good for one, good in self.wish[2])

    def breaks(self, cells, steps):
        """Tell whether steps lead to an end that the wish does not let: True, False, or what is due, None for neither."""
        run = Acted(self.cells, cells, steps)
        try:
            _, end, _ = run.showing(self.e)
        except Due as due:
            return due.args[0]
        if end is None or end[0] not in ("ends", "fails") or run.left:
            return None
        outcome = end
        if end[0] == "ends":
            outcome = (end[1][1],) if self.whole == TRUTH else ("ends",)
        return not self.lets(outcome, run.line)

    def worths(self, kind, numbers):
        if kind == TRUTH:
            return [("truth", "yes"), ("truth", "no")]
        if kind[0] == "pair":
            return [("pair", one, other) for one in self.worths(kind[1], numbers) for other in self.worths(kind[2], numbers)]
        return [("number", n) for n in numbers]

    def next_steps(self, due, deeds, numbers):
        if due[0] == "asks":
            return [("asked", n) for n in numbers]
        found = []
        for deed in deeds:
            if deed[0] == due[1]:
                worths = self.worths(self.kinds[due[1]], numbers) if deed[1] == ("ends",) else [None]
                for cells in itertools.product(numbers, repeat=len(self.cells)):
                    found.extend([("done", deed, worth, cells) for worth in worths])
        return found

    def fewest(self, deeds, most, numbers, patience=4000):
        """Give the fewest steps, up to a number, to an end that breaks the wish, None if there is none."""
        level = [(cells, ()) for cells in itertools.product(numbers, repeat=len(self.cells))]
        for many in range(most + 1):
            behind = []
            for cells, steps in level:
                told = self.breaks(cells, steps)
                if told is True:
                    return many
                if isinstance(told, tuple):
                    behind.extend([(cells, steps + (step,)) for step in self.next_steps(told, deeds, numbers)])
            level = behind
            if len(level) > patience:
                return many + 1 / 2
        return None
