"""Editions: which forms are kept, how they fare, and programs that go wrong."""

import random
import unittest

from formrules.closed import is_closed
from formrules.editions import fares, kept, wronged
from formrules.errors import BadBook, BadCells, BadForm, BadMany, TooMany
from formrules.expanding import Sizes
from formrules.kinds import kind_of
from formrules.leading import binders
from formrules.running import run
from formrules.shapes import nodes_of
from formrules.shelves import Shelf

from calls import check_calls
from fixtures import ASK, B0, B1, H0, NO, P0, P1, P2, R0, YES, book, form, name, num, own
from kindly import Kindly
from test_opened import EVIL, GREAT

ONCE = form("one", 1, 1, None, ("let", B0, num(1), P0))
OPEN = form("one", 1, 1, None, ("then", P0, ("let", B0, num(1), P0)))


def edition(*forms, cells=("c",)):
    return book(*forms, cells=cells)


class Kept(unittest.TestCase):
    def test_calls(self):
        good = {"old": EVIL, "new": EVIL}
        bad = [("old", None, BadBook), ("new", None, BadBook), ("old", (), BadBook), ("new", EVIL[:2], BadBook)]
        check_calls(self, kept, good, bad)
        for old, new in ((book(), edition()), (book(cells=("c", "d")), book(cells=("d", "c")))):
            with self.assertRaises(BadCells):
                kept(old, new)

    def test_kept(self):
        old = book(form("zed", 0, 1, None, P0), form("abc", 1, 1, None, P0), form("gone", 0, 0, None, num(1)), form("rows", 0, 1, (1, 1), P0, H0), form("more", 0, 1, None, P0), form("names", 1, 1, None, P0))
        new = book(form("rows", 0, 1, (1, 1), P0, P0), form("abc", 1, 1, None, ("show", P0)), form("zed", 0, 1, None, P0), form("more", 0, 2, None, P0), form("names", 0, 1, None, P0), form("fresh", 0, 1, None, P0))
        self.assertEqual(kept(old, new), ("abc", "rows", "zed"))
        self.assertEqual(kept(book(form("rows", 0, 1, (1, 1), P0, H0)), book(form("rows", 0, 1, (1, 2), P0, H0))), ())
        self.assertEqual(kept(book(form("rows", 0, 1, None, P0)), book(form("rows", 0, 1, (0, 0), P0, P0))), ())


class Fares(unittest.TestCase):
    def test_errors(self):
        rows = form("rows", 0, 1, (0, 1), P0, ("then", H0, ("rest",)))
        rare = form("rare", 0, 1, None, P0)
        old = edition(GREAT, ONCE, rows, rare)
        new = edition(GREAT, ONCE, rows, form("rare", 0, 2, None, P0))
        for function in (fares, wronged):
            good = {"old": old, "new": new, "name": "one", "many": 0}
            bad = [("old", None, BadBook), ("new", 7, BadBook)] + [("name", one, BadForm) for one in ("none", "rare", None, 1, ["one"])]
            bad += [("many", one, BadMany) for one in (1, 9, -1, True, None)]
            check_calls(self, function, good, bad)
            for more, error, most in (
                ({"new": book(ONCE)}, BadCells, None), ({"new": book(), "name": "none"}, BadCells, None), ({"name": "rows", "many": 9}, BadMany, None),
                ({"name": "rows", "many": 4}, TooMany, 3), ({"name": "rows", "many": 8}, TooMany, 3), ({"name": "great"}, TooMany, 100),
            ):
                with self.assertRaises(error) as caught:
                    function(**{**good, **more})
                if most:
                    self.assertEqual(caught.exception.most, most)
            self.assertIn(function(old, new, "rows", 3), (("same",), None))

    def test_great_behaviours(self):
        """TooMany(200) as [64]."""
        many = form("one", 0, 4, None, remembering())
        with self.assertRaises(TooMany) as caught:
            fares(edition(many), edition(many), "one", 0)
        self.assertEqual(caught.exception.most, 200)

    def check(self, old, new, word, many=0):
        """Hold fares against what was expected, and wronged against it."""
        old, new = edition(*old), edition(*new)
        found = fares(old, new, "one", many)
        self.assertEqual(found, (word,))
        told = wronged(old, new, "one", many)
        if word in ("open", "same"):
            self.assertIsNone(told)
        else:
            self.assertTrue(goes_wrong(old, new, told))
        return told

    def test_words(self):
        self.check([ONCE], [ONCE], "same")
        self.check([ONCE], [OPEN], "open")
        self.check([OPEN], [ONCE], "open")
        self.check([form("one", 1, 1, None, ("first", num(1)))], [ONCE], "open")
        # A name that was seen, and a place that did not stand.
        self.check([ONCE], [form("one", 1, 1, None, P0)], "scope")
        self.check([form("one", 0, 1, None, num(1))], [form("one", 0, 1, None, ("then", P0, num(1)))], "scope")
        self.check([form("one", 0, 1, None, ("then", P0, num(1)))], [form("one", 0, 1, None, num(1))], "does")
        # The first that holds is told: kinds differ, too.
        self.check([ONCE], [form("one", 1, 1, None, ("if", P0, num(1), num(2)))], "scope")
        self.check([form("one", 0, 1, None, P0)], [form("one", 0, 1, None, ("set", "c", P0))], "kinds")
        self.check([form("one", 0, 1, None, ("set", "c", P0))], [form("one", 0, 1, None, P0)], "does")
        self.check([form("one", 0, 1, None, ("set", "c", P0))], [form("one", 0, 1, None, ("then", P0, num(1)))], "does")
        self.check([form("one", 0, 1, None, P0)], [form("one", 0, 1, None, ("first", num(1)))], "kinds")
        self.check([form("one", 0, 1, None, ("then", P0, num(1)))], [form("one", 0, 1, None, ("then", P0, ("catch", "w", num(1), P0)))], "kinds")
        self.check([form("one", 0, 1, None, P0)], [form("one", 0, 1, None, ("catch", "w", P0, P0))], "does")
        self.check([form("one", 0, 1, None, ("show", P0))], [form("one", 0, 1, None, ("let", "t", P0, ("show", name("t"))))], "same")
        self.check([form("one", 0, 2, None, ("pair", P0, P1))], [form("one", 0, 2, None, ("let", "t", P1, ("pair", P0, name("t"))))], "does")

    def test_more_is_seen(self):
        """A part place that sees more in new is told by kinds or deeds, or it is never done."""
        self.check([form("one", 1, 1, None, P0)], [ONCE], "kinds")
        self.check([form("one", 1, 2, None, ("then", ("let", B0, num(2), P1), P0))], [form("one", 1, 2, None, ("let", B0, num(2), ("then", P1, P0)))], "does")
        self.check([form("one", 1, 2, None, ("then", P1, ("let", B0, YES, P0)))], [form("one", 1, 2, None, ("then", ("let", B0, YES, P0), ("let", B0, num(1), P1)))], "kinds")
        never = ("while", YES, num(1))
        first = ("let", B0, num(1), P1)
        self.check([form("one", 1, 2, None, ("then", first, ("then", never, P0)))], [form("one", 1, 2, None, ("then", first, ("then", never, ("let", B0, num(1), P0))))], "same")

    def test_kinds(self):
        """Fillings of unknowns that show what is asked of them."""
        old = form("one", 0, 2, None, ("pair", P0, P1))
        for part in (("if", P0, num(1), num(2)), ("first", P0), ("set", "c", P0), ("if", YES, P0, P1), ("if", YES, P0, ("pair", P1, P1)), ("if", YES, ("pair", P0, P0), P1)):
            self.check([old], [form("one", 0, 2, None, ("then", part, ("pair", P0, P1)))], "kinds")
        self.check([form("one", 0, 2, None, ("pair", ("first", P0), P1))], [form("one", 0, 2, None, ("pair", ("first", P0), ("first", P1)))], "kinds")
        self.check([form("one", 0, 2, None, ("pair", ("first", P0), P1))], [form("one", 0, 2, None, ("pair", ("if", YES, ("first", P0), ("second", P0)), P1))], "kinds")
        self.check([form("one", 2, 1, None, ("let", B0, num(1), ("let", B1, YES, P0)))], [form("one", 2, 1, None, ("let", B0, YES, ("let", B1, YES, P0)))], "kinds")

    def test_rows(self):
        old = form("one", 0, 1, (1, 1), P0, ("let", R0, H0, ("rest",)))
        new = form("one", 0, 1, (1, 1), P0, ("let", "t", H0, ("let", R0, name("t"), ("rest",))))
        other = form("one", 0, 1, (1, 1), P0, ("then", H0, ("let", R0, num(1), ("rest",))))
        last = form("one", 0, 1, (1, 1), P0, ("then", H0, ("rest",)))
        for many in range(4):
            self.check([old], [new], "same", many)
            self.check([old], [other], "kinds" if many else "same", many)
            self.check([old], [last], "scope" if many else "same", many)
        # Behaviours are held by the plain scheme of old.
        self.check([form("one", 0, 1, (1, 1), P0, ("let", R0, ("set", "c", H0), ("rest",)))], [old], "does", 1)

    def test_forms_within(self):
        old, new = form("in", 0, 1, None, ("then", P0, P0)), form("in", 0, 1, None, P0)
        used = form("one", 0, 1, None, own("inn", [], [P0]))
        inner = [form("inn", 0, 1, None, e[5][0]) for e in (old, new)]
        self.check([inner[0], used], [inner[1], used], "does")
        self.check([inner[0], used], [inner[0], form("other", 0, 0, None, num(1)), used], "same")

    def test_small_books(self):
        """What fares the same shows the same in programs tried, and wronged tells a program that goes wrong."""
        told = {word: 0 for word in ("open", "scope", "kinds", "does", "same")}
        for seed in range(240):
            maker = Kindly(seed, cells=("c", "d") if seed % 2 else ("c",))
            old = maker.book(2)
            new = maker.with_form(("book", old[1], old[2][:1]), "formb", 3, like="formb")
            if seed % 3 == 0:
                new = with_rules(old, random.Random(seed))
            for word in kept(old, new):
                for many in (0, 1, 2) if [one for one in old[2] if one[1] == word][0][4] else (0,):
                    try:
                        found = fares(old, new, word, many)
                    except TooMany:
                        continue
                    told[found[0]] += 1
                    wrong = wronged(old, new, word, many)
                    if found[0] in ("open", "same"):
                        self.assertIsNone(wrong)
                        continue
                    e, _ = wrong
                    if found[0] == "does" and max(Sizes(Shelf(one[2])).of(e) for one in (old, new)) > 1000:
                        continue
                    self.assertTrue(goes_wrong(old, new, wrong), (seed, word, many))
                    self.assertTrue(all(node[1] == word and len(node[4]) == many for _, node in nodes_of(e) if node[0] == "own"))
            self.check_same(old, new, maker)
        self.assertTrue(all(many > 10 for many in told.values()), told)

    def check_same(self, old, new, maker):
        """Let programs run whose forms all fare the same."""
        same = {}
        for word in kept(old, new):
            many = 1 if [one for one in old[2] if one[1] == word][0][4] else 0
            for rows in range(many + 2 if many else 1):
                try:
                    same[(word, rows)] = fares(old, new, word, rows) == ("same",)
                except TooMany:
                    same[(word, rows)] = False
        maker.told, maker.binding, maker.leaves = old, {"t": None, "u": None}, {}
        for kind in (("number",), ("truth",)):
            e = maker.node(kind, 2, {})
            uses = [(node[1], len(node[4])) for _, node in nodes_of(e) if node[0] == "own"]
            if not uses or not all(same.get(one) for one in uses) or not is_closed(old, e) or kind_of(old, e) is None:
                continue
            self.assertTrue(is_closed(new, e))
            for inputs in ([], [1, 5, 0, 2], [0] * 9):
                if max(Sizes(Shelf(one[2])).of(e) for one in (old, new)) <= 1000:
                    self.assertEqual(run(old, e, inputs, 60), run(new, e, inputs, 60))


def remembering():
    """Give a template that remembers the truths to which its parts come: there are 256 standings at the end."""
    names = ["p", "q", "r", "s", "t", "u", "v", "x"]
    e = ("truth", "no")
    for x in names:
        e = ("then", ("show", ("name", x)), e)
    for k, x in enumerate(names):
        e = ("let", x, ("if", ("part", k % 4), YES, NO), e)
    return e


def goes_wrong(old, new, told):
    """Tell whether a program is right by old, and not by new, or shows unlike."""
    e, inputs = told
    if not is_closed(old, e) or kind_of(old, e) is None:
        return False
    if not is_closed(new, e) or kind_of(new, e) is None:
        return True
    return run(old, e, inputs, 200) != run(new, e, inputs, 200)


def with_rules(old, rnd):
    """Give a book whose last form is changed at one node."""
    last = old[2][-1]
    rules = []
    for rule in last[5]:
        paths = [path for path, node in nodes_of(rule) if node[0] in ("number", "truth", "show", "then", "part")]
        changed = rule
        if paths:
            path = rnd.choice(paths)
            node = [one for at, one in nodes_of(rule) if at == path][0]
            new = {"number": ("number", 3), "truth": NO, "show": node[1], "then": node[-1], "part": ("then", node, node)}[node[0]]
            changed = replaced(rule, path, new)
        rules.append(changed)
    return ("book", old[1], old[2][:-1] + (last[:5] + (tuple(rules),),))


def replaced(thing, path, new):
    if not path:
        return new
    return thing[:path[0]] + (replaced(thing[path[0]], path[1:], new),) + thing[path[0] + 1:]


if __name__ == "__main__":
    unittest.main()
