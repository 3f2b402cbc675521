"""The heart of [62]: what a use shows is what is played, with worths in the place of things."""

import unittest

import naive

from formrules.opened import played
from formrules.places import outcomes
from formrules.plains import plain
from formrules.sights import sights

from fixtures import num
from kindly import Kindly

NUMBER, TRUTH = ("number",), ("truth",)


def numbered(kind):
    """Give a kind with numbers in the place of unknowns."""
    if kind[0] == "pair":
        return ("pair", numbered(kind[1]), numbered(kind[2]))
    return NUMBER if kind[0] == "any" else kind


def matched(term, worth, worths):
    """Tell whether a worth is a term with some worths for its things, and gather these."""
    if term[0] == "thing":
        worths.append(worth)
        return True
    if term[0] == "pair":
        return worth[0] == "pair" and matched(term[1], worth[1], worths) and matched(term[2], worth[2], worths)
    return term == worth


class Acting:
    """Plays a form with parts in the place of answers."""

    def __init__(self, told, word, many, kinds, parts, names, outer, inputs):
        self.told, self.word, self.many = told, word, many
        self.kinds, self.parts, self.names = dict(kinds[2]), parts, names
        self.outer, self.inputs = outer, list(inputs)
        self.things = [num(0) for _ in told[1]]
        self.answers, self.events = [], []

    def worth(self, term):
        if term[0] == "pair":
            return ("pair", self.worth(term[1]), self.worth(term[2]))
        return self.things[term[1]] if term[0] == "thing" else term

    def act(self):
        """Give the events and the end, None if it takes too long."""
        done = 0
        while len(self.answers) < 40:
            events, end = played(self.told, self.word, self.many, self.answers, 200)
            for event in events[done:]:
                done += 1
                if event[0] == "asks":
                    if not self.inputs:
                        return self.events, ("waits",)
                    self.events.append(("asked", self.inputs[0]))
                    self.things.append(num(self.inputs.pop(0)))
                elif event[0] == "shows":
                    self.events.append(("shown", self.worth(event[1])))
                else:
                    end = self.do(event)
                    break
            else:
                if end[0] == "ends":
                    return self.events, ("ends", self.worth(end[1]))
                return self.events, end[:2]
            if end is not None:
                return self.events, end
        return self.events, None

    def do(self, event):
        """Run the part of a place, and note how it ends; give an end that ends all, or None."""
        _, place, seen, held = event
        names = dict(self.outer)
        names.update({x: self.worth(term) for x, term in zip(self.names, seen) if term is not None})
        runner = naive.Runner(self.told[1], self.inputs, 200)
        runner.cells = dict(zip(self.told[1], [self.worth(term)[1] for term in held]))
        try:
            end = ("ends", runner.go(self.parts[place], names))
        except naive.Fault as fault:
            end = ("fails", fault.args[0])
        except naive.End as told:
            end = told.args[0]
        self.events += runner.events
        self.inputs = runner.inputs
        if end is None or end[0] not in ("ends", "fails"):
            return end or ("long",)
        if end[0] == "ends":
            for k, term in enumerate(outcomes(self.kinds[place])):
                worths = []
                if matched(term, end[1], worths):
                    self.answers.append(("ends", k))
                    self.things += worths
        else:
            self.answers.append(end)
        self.things += [num(n) for n in runner.cells.values()]
        return None


class Heart(unittest.TestCase):
    def test_small_books(self):
        heads = {}
        for seed in range(400):
            maker = Kindly(seed, cells=[(), ("c",), ("c", "d")][seed % 3])
            told = maker.book(2, 4)
            one = told[2][-1]
            many = maker.random.randint(0, 2) if one[4] else 0
            kinds = plain(told, one[1], many)
            outer = {"o": num(3), "q": ("truth", "no")}
            names = ["x", "y", "z", "o", "m", "n"][:len(kinds[1])]
            seen = sights(told, one[1], many)
            parts = {}
            for place, kind in kinds[2]:
                inner = {"q": TRUTH} if "o" in names else {"o": NUMBER, "q": TRUTH}
                for at, (where, its) in enumerate(kinds[1]):
                    if seen[place] is not None and where in seen[place][0]:
                        inner[names[at]] = numbered(its)
                parts[place] = maker.core(numbered(kind), maker.random.randint(0, 3), inner, told[1])
            given = dict(zip([place for place, _ in kinds[1]], names))
            use = naive.open_use(one, many, given.get, parts.get)
            inputs = [maker.random.randint(0, 7) for _ in range(maker.random.randint(0, 8))]
            runner = naive.Runner(told[1], inputs, 200)
            try:
                end = ("ends", runner.go(naive.Expander(told).outermost(use), dict(outer)))
            except naive.Fault as fault:
                end = ("fails", fault.args[0])
            except naive.End as stop:
                end = stop.args[0]
            if end is None or len(runner.events) == 200:
                continue
            events, found = Acting(told, one[1], many, kinds, parts, names, outer, inputs).act()
            self.assertEqual((events, found), (runner.events, end))
            heads[end[0]] = heads.get(end[0], 0) + 1
        self.assertGreater(min(heads.values()), 10)
        self.assertEqual(sorted(heads), ["ends", "fails", "waits"])


if __name__ == "__main__":
    unittest.main()
