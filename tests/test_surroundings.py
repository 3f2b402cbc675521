"""Sides, and programs around them that tell them apart."""

import itertools
import unittest

from formrules.books import is_expression
from formrules.closed import is_closed
from formrules.errors import BadBook, BadExpression, BadForm, BadMany, NoPlain, OtherPlaces, TooMany
from formrules.kinds import kind_of
from formrules.least import behaviour
from formrules.plains import common, plain
from formrules.running import run
from formrules.shapes import nodes_of
from formrules.sides import exchanged
from formrules.surroundings import probe, tells, unlike
from formrules.writing import written

from calls import check_calls
from fixtures import ASK, B0, BOOK58, H0, MIXED, NO, ODDITIES, P0, P1, R0, YES, book, form, name, num, own
from kindly import Kindly
from test_apart import ONE_PART
from test_opened import GREAT

ONES = book(*ONE_PART, cells=("c",))
N = ("number",)


def sizes(e):
    """Give the number of nodes of an expression, and how deep it nests."""
    found = nodes_of(e)
    return len(found), max(len(path) for path, _ in found) + 1


def check_sides(test, function, behind):
    """Hold a function of sides against its errors; behind is a tuple of further arguments, all right for no rows."""
    rows = form("rows", 1, 1, (0, 1), P0, ("then", H0, ("rest",)))
    others = form("others", 1, 1, (0, 1), ("show", P0), ("then", H0, ("rest",)))
    none = form("none", 1, 1, (0, 1), P0, ("first", num(1)))
    number = form("number", 1, 1, (0, 1), ("set", "c", P0), ("set", "c", P0))
    truth = form("truth", 1, 1, (0, 1), ("if", P0, P0, P0), ("set", "c", P0))
    great = form("greats", 1, 1, (0, 1), GREAT[5][0], GREAT[5][0])
    told = book(*MIXED[2], rows, others, none, number, truth, great, cells=("c",))
    for arguments, error, most in (
        ((None, "none", "odd", 9), BadBook, None), ((told, "nothing", None, 9), BadForm, None), ((told, "rows", None, 9), BadForm, None),
        ((told, "rows", "nothing", 9), BadForm, None), ((told, "rows", "odd", 9), OtherPlaces, None), ((told, "odd", "calm", 9), BadForm, None),
        ((told, "odd", "twice", 9), OtherPlaces, None), ((told, "rows", "others", 9), BadMany, None), ((told, "rows", "none", True), BadMany, None),
        ((told, "rows", "others", -1), BadMany, None), ((told, "odd", "odd", 1), BadMany, None), ((told, "rows", "none", 4), NoPlain, None),
        ((told, "none", "greats", 4), NoPlain, None), ((told, "greats", "none", 4), NoPlain, None), ((told, "number", "truth", 0), NoPlain, None),
        ((told, "rows", "others", 4), TooMany, 3), ((told, "rows", "greats", 4), TooMany, 3), ((told, "rows", "greats", 0), TooMany, 100),
        ((told, "greats", "rows", 3), TooMany, 100),
    ):
        with test.assertRaises(error, msg=arguments[1:]) as caught:
            function(*arguments, *behind)
        test.assertIs(caught.exception.__class__, error)
        if most is not None:
            test.assertEqual(caught.exception.most, most)
    return told


class Exchanged(unittest.TestCase):
    def test_calls(self):
        good = {"book": ONES, "name": "once", "other": "twice", "e": own("once", [], [num(1)])}
        bad = [("book", None, BadBook)] + [(at, one, BadForm) for at in ("name", "other") for one in ("none", None, 1, ["once"])]
        bad += [("e", one, BadExpression) for one in ODDITIES]
        check_calls(self, exchanged, good, bad)
        with self.assertRaises(OtherPlaces):
            exchanged(MIXED, "odd", "twice", None)
        # Sides have equal rows, though none of them is used.
        with self.assertRaises(OtherPlaces):
            exchanged(book(form("one", 0, 1, None, P0), form("two", 0, 1, (0, 1), P0, H0)), "one", "two", num(1))

    def test_at_any_depth(self):
        e = own("once", [], [own("twice", [], [("pair", own("once", [], [ASK]), own("keep", [], [own("once", [], [YES])]))])])
        found = exchanged(ONES, "once", "shown", e)
        self.assertEqual(found, own("shown", [], [own("twice", [], [("pair", own("shown", [], [ASK]), own("keep", [], [own("shown", [], [YES])]))])]))
        self.assertEqual(exchanged(ONES, "once", "once", e), e)
        self.assertEqual(exchanged(ONES, "again", "once", e), e)
        rows = form("two", 0, 1, (1, 1), P0, ("let", R0, H0, ("rest",)))
        told = book(MIXED[2][2], rows)
        e = own("seq", [], [own("seq", [], [num(1)])], [("x", [own("seq", [], [num(2)])]), ("y", [name("x")])])
        found = exchanged(told, "seq", "two", e)
        self.assertEqual(found, own("two", [], [own("two", [], [num(1)])], [("x", [own("two", [], [num(2)])]), ("y", [name("x")])]))


class Unlike(unittest.TestCase):
    def test_errors(self):
        told = check_sides(self, unlike, ())
        check_sides(self, probe, ())
        check_sides(self, tells, (None,))
        for function, behind in ((unlike, ()), (probe, ()), (tells, (1,))):
            self.assertEqual(function(told, "rows", "others", 1, *behind), function(book=told, name="rows", other="others", many=1, **dict(zip(["thing"], behind))))

    def test_pairs_of_forms(self):
        for one, other in itertools.permutations([made[1] for made in ONE_PART], 2):
            found = unlike(ONES, one, other, 0)
            self.assertIs(tells(ONES, one, other, 0, found), True, (one, other))
            self.assertEqual(unlike(ONES, one, other, 0), found)
        for one in ONE_PART:
            self.assertIsNone(unlike(ONES, one[1], one[1], 0))

    def test_what_is_told_apart(self):
        """Whatever is unlike is told: what is done, seen, shown, held, caught, and how it ends."""
        for one, other in (
            (("then", P0, P1), ("then", P1, P0)), (("let", B0, P0, P1), ("let", "t", P0, P1)), (("let", B0, num(0), P1), P1), (("let", B0, num(0), P1), ("let", B0, num(1), P1)),
            (("let", B0, P0, P1), ("let", B0, P0, ("let", B0, num(0), P1))), (("let", B0, P0, P1), ("let", B0, P0, ("let", B0, num(5), P1))),
            (("let", B0, YES, P1), ("let", B0, NO, P1)), (("show", ("pair", P0, YES)), ("let", "t", P0, ("pair", name("t"), YES))),
            (("pair", num(1), num(1)), ("pair", num(1), num(2))), (("then", ("set", "c", num(0)), P0), P0), (("then", ("set", "c", num(5)), P0), P0),
            (("then", P0, ("set", "c", num(0))), ("then", P0, num(0))), (("catch", "w", P0, P1), ("catch", "v", P0, P1)), (("fail", "w"), ("fail", "v")),
            (("then", P0, ("fail", "w")), ("while", YES, P0)), (("while", YES, num(1)), ASK), (ASK, ("get", "c")), (("show", ASK), ("let", "t", ASK, ("show", num(5)))),
            (("let", "t", P0, ("let", "u", P0, ("pair", name("t"), name("u")))), ("let", "t", P0, ("let", "u", P0, ("pair", name("u"), name("t"))))),
            (("pair", ("pair", ("pair", num(0), num(0)), num(0)), num(0)), ("show", ("pair", ("pair", ("pair", num(0), num(0)), num(0)), num(0)))),
        ):
            told = book(form("one", 1, 2, None, one), form("other", 1, 2, None, other), cells=("c",))
            for pair in (("one", "other"), ("other", "one")):
                found = unlike(told, *pair, 0)
                self.assertIs(tells(told, *pair, 0, found), True, pair)
                self.assertLessEqual(set(found[1]), {0, 5})

    def test_unknown_kinds(self):
        # Nothing is looked at in a thing of an unknown kind, but some two worths tell things apart.
        told = book(form("one", 0, 1, None, ("pair", P0, P0)), form("other", 0, 1, None, ("let", "t", P0, ("then", P0, ("pair", name("t"), name("t"))))))
        self.assertIs(tells(told, "one", "other", 0, unlike(told, "one", "other", 0)), True)

    def test_rows(self):
        two = form("two", 0, 1, (1, 1), P0, ("let", R0, ("show", H0), ("rest",)))
        told = book(MIXED[2][2], two)
        self.assertIsNone(unlike(told, "seq", "two", 0))
        for many in (1, 2, 3):
            found = unlike(told, "seq", "two", many)
            self.assertIs(tells(told, "seq", "two", many, found), True)
            self.assertIs(tells(told, "seq", "two", many - 1, found), False)

    def test_small_books(self):
        """Sides are the same exactly if their behaviours are equal; others are told, within the limits."""
        tried = {True: 0, False: 0}
        for seed in range(90):
            maker = Kindly(seed, cells=[(), ("c",), ("c", "d")][seed % 3])
            told = maker.book(2, 3)
            base = told[2][-1][1]
            for word in ("xa", "xb"):
                told = maker.with_form(told, word, 3, like=base)
            for one, other in itertools.combinations([base, "xa", "xb"], 2):
                many = maker.random.randint(0, 2) if told[2][-1][4] else 0
                both = common(plain(told, one, many), plain(told, other, many))
                if both is None:
                    with self.assertRaises(NoPlain):
                        unlike(told, one, other, many)
                    continue
                found = unlike(told, one, other, many)
                self.assertEqual(found is None, behaviour(told, one, many, both) == behaviour(told, other, many, both))
                tried[found is None] += 1
                probing = probe(told, one, other, many)
                self.assertIs(is_expression(told, probing), True)
                if found is None:
                    for _ in range(4):
                        inputs = [maker.random.choice([0, 5]) for _ in range(40)]
                        self.assertIs(tells(told, one, other, many, (probing, inputs)), False)
                elif small(told, (one, other), many, both):
                    self.check(told, one, other, many, found)
                    self.assertIs(tells(told, one, other, many, (probing, found[1])), True)
        self.assertGreater(min(tried.values()), 15)

    def check(self, told, one, other, many, found):
        e, inputs = found
        self.assertIs(tells(told, one, other, many, found), True)
        self.assertLessEqual(len(inputs), 200)
        nodes, depth = sizes(e)
        self.assertLessEqual((nodes <= 400, depth <= 60), (True, True))
        rival = exchanged(told, one, other, e)
        for program in (e, rival):
            self.assertIs(is_closed(told, program), True)
            self.assertIsNotNone(kind_of(told, program))
            self.assertLessEqual(sizes(written(told, program))[1], 150)
        self.assertNotEqual(run(told, e, inputs, 200), run(told, rival, inputs, 200))


def small(told, pair, many, both):
    """Tell whether sides are within the limits of [70]: all that tells them is within those of [4]."""
    def nodes(kind):
        return 1 + nodes(kind[1]) + nodes(kind[2]) if kind[0] == "pair" else 1

    faults = set()
    for word in pair:
        one = [one for one in told[2] if one[1] == word][0]
        use = open_use(one, many)
        try:
            found = [node for _, node in nodes_of(written(told, use))]
        except TooMany:
            return False
        faults |= {node[1] for node in found if node[0] in ("fail", "catch")}
        # Each place is a number here, so it counts as a node.
        if len(found) > 40:
            return False
    return len(both[1]) <= 4 and len(both[2]) <= 4 and len(faults) <= 2 and all(nodes(kind) <= 3 for _, kind in both[2])


def open_use(one, many):
    names = ["aa", "ab", "ac", "ad", "ae", "af", "ag", "ah", "ai", "aj", "ak"]
    rows = []
    for k in range(many):
        rows.append((names[one[2] + k * one[4][0]:one[2] + (k + 1) * one[4][0]], [num(0)] * one[4][1]))
    return own(one[1], names[:one[2]], [num(0)] * one[3], rows)


class Tells(unittest.TestCase):
    def test_any_value(self):
        e, inputs = unlike(ONES, "once", "twice", 0)
        self.assertIs(tells(ONES, "once", "twice", 0, (e, inputs)), True)
        self.assertIs(tells(ONES, "once", "twice", 0, (e, tuple(inputs))), True)
        for thing in ODDITIES + [
            e, [e, inputs], (e,), (e, inputs, 1), (e, None), (e, 1), (e, [8]), (e, [True]), (e, ["1"]), (e, [0] * 201), (P0, []), (num(1), []),
        ]:
            self.assertIs(tells(ONES, "once", "twice", 0, thing), False, thing)
        self.assertIs(tells(ONES, "once", "twice", 0, (e, inputs + [0] * (200 - len(inputs)))), True)

    def test_programs(self):
        def told(e, inputs=(), pair=("once", "twice"), many=0, given=ONES):
            return tells(given, *pair, many, (e, list(inputs)))

        use = own("once", [], [("show", num(1))])
        self.assertIs(told(use), True)
        # It must be closed and have a kind, and so the other one must.
        self.assertIs(told(("pair", use, name("x"))), False)
        self.assertIs(told(("pair", use, ("first", num(1)))), False)
        self.assertIs(told(("if", use, num(1), num(1))), False)
        self.assertIs(told(own("twice", [], [("show", num(1))])), False)
        lets = book(form("one", 1, 1, None, ("let", B0, num(1), P0)), form("other", 1, 1, None, ("let", B0, num(2), P0)), form("free", 1, 1, None, P0), cells=("c",))
        shown = own("one", ["x"], [("show", name("x"))])
        self.assertIs(told(shown, pair=("one", "other"), given=lets), True)
        kept = own("one", ["x"], [("set", "c", name("x"))])
        self.assertIs(told(("show", ("let", "x", num(2), kept)), pair=("one", "free"), given=lets), True)
        self.assertIs(told(("show", ("let", "x", YES, kept)), pair=("one", "free"), given=lets), False)
        self.assertIs(told(shown, pair=("one", "free"), given=lets), False)
        self.assertIs(told(("let", "x", num(2), shown), pair=("one", "free"), given=lets), True)
        # Each use has so many rows.
        two = form("two", 0, 1, (1, 1), P0, ("let", R0, ("show", H0), ("rest",)))
        rows = book(MIXED[2][2], two)
        one, none = own("seq", [], [num(1)], [("x", [num(2)])]), own("seq", [], [num(1)])
        self.assertIs(told(one, pair=("seq", "two"), many=1, given=rows), True)
        self.assertIs(told(("pair", one, none), pair=("seq", "two"), many=1, given=rows), False)
        self.assertIs(told(("pair", one, own("two", [], [num(1)])), pair=("seq", "two"), many=1, given=rows), True)

    def test_events(self):
        # Showings are held against one another up to 200 events.
        many = ("while", YES, ("show", num(1)))
        self.assertIs(tells(ONES, "once", "twice", 0, (("then", own("once", [], [num(1)]), many), [])), False)
        self.assertIs(tells(ONES, "once", "shown", 0, (("then", own("once", [], [num(2)]), many), [])), True)
        self.assertIs(tells(ONES, "once", "shown", 0, (("then", many, own("once", [], [num(2)])), [])), False)

    def test_too_many(self):
        # What is too great to be run, or has too great a kind, tells nothing.
        e = ("show", num(1))
        for _ in range(9):
            e = own("once", [], [("then", e, ("show", num(1)))])
        self.assertIs(tells(ONES, "once", "twice", 0, (e, [])), False)
        self.assertIs(tells(ONES, "once", "shown", 0, (e, [])), True)
        e = own("once", [], [num(1)])
        for _ in range(8):
            e = ("let", "t", e, ("pair", name("t"), name("t")))
        self.assertIs(tells(ONES, "once", "shown", 0, (e, [])), False)
        self.assertIs(tells(ONES, "once", "shown", 0, (("then", e, num(1)), [])), True)
        told = book(*ONE_PART, GREAT, cells=("c",))
        self.assertIs(tells(told, "once", "shown", 0, (("then", own("once", [], [num(1)]), own("great", [], [num(1)])), [])), False)


class Probe(unittest.TestCase):
    def test_one_for_all(self):
        """With all inputs of 0 and 5 up to some length the probe tells sides exactly if something tells them."""
        for one, other in (("once", "twice"), ("once", "again"), ("keep", "once"), ("lost", "never"), ("once", "once"), ("shown", "again")):
            e = probe(ONES, one, other, 0)
            found = any(tells(ONES, one, other, 0, (e, inputs)) for length in range(5) for inputs in itertools.product([0, 5], repeat=length))
            self.assertEqual(found, one != other)
            self.assertEqual(unlike(ONES, one, other, 0) is None, one == other)
            self.assertEqual(probe(ONES, one, other, 0), e)

    def test_nothing_that_a_side_shows_is_taken_for_a_part(self):
        deep = ("pair", num(0), ("pair", num(0), ("pair", num(0), ("pair", num(0), num(0)))))
        told = book(form("one", 0, 1, None, ("then", ("show", deep), P0)), form("other", 0, 1, None, ("then", P0, ("show", deep))))
        self.assertIs(tells(told, "one", "other", 0, unlike(told, "one", "other", 0)), True)
        twice = ("let", "t", P0, ("let", "u", ("pair", name("t"), name("t")), ("let", "v", ("pair", name("u"), name("u")), ("show", ("pair", name("v"), name("v"))))))
        told = book(form("one", 0, 1, None, twice), form("other", 0, 1, None, ("then", ("show", num(1)), twice)))
        self.assertIs(tells(told, "one", "other", 0, unlike(told, "one", "other", 0)), True)


class HardToTell(unittest.TestCase):
    def test_plain_schemes_in_a_surrounding(self):
        # f of [58] has no plain scheme.
        told = book(*BOOK58[2], form("g", 1, 2, None, P0))
        for pair in (("f", "g"), ("g", "f")):
            with self.assertRaises(NoPlain):
                unlike(told, *pair, 0)


if __name__ == "__main__":
    unittest.main()
