"""Dim worths, to what free runs come, and which nodes bring it."""

import unittest

import naive
import naiveruns

from formrules.bringing import brings, roots
from formrules.closed import is_closed
from formrules.dims import dimmed
from formrules.errors import BadBook, BadExpression, BadGoal, BadNames, BadWorth
from formrules.kinds import kind_of
from formrules.leading import binders
from formrules.running import run

from calls import check_calls
from fixtures import ASK, B0, B1, BOOK47, H0, MIXED, NO, ODDITIES, P0, P1, P2, R0, YES, book, chain, form, inside, name, num, own, side_by_side
from kindly import Kindly
from small import Maker

N = ("number",)
ENDS_N, ENDS_YES, ENDS_NO = ("ends", N), ("ends", YES), ("ends", NO)
ENDLESS, SHOWS, ASKS, OTHER = ("endless",), ("shows",), ("asks",), ("fails", None)
READS, SETS = ("reads", "c"), ("sets", "c")
LESS = ("less", ASK, num(1))
LOOP = ("while", YES, num(0))
# The form of [86].
ATTEMPT = form("attempt", 1, 2, None, ("catch", "w", ("let", B0, P0, ("while", P1, ("set", "c", name(B0)))), ("fail", "v")))
BOOK86 = book(ATTEMPT, cells=("c",))
USE86 = own("attempt", ["x"], [ASK, ("less", ("get", "c"), name("x"))])
# Values that are no whats by their form, in a book with the cell c and the faults v and w.
NO_WHATS = ODDITIES[:30] + [
    ("ends",), ("ends", N, N), ("ends", ("number", 0)), ("ends", ("truth",)), ("ends", ("any", -1)), ("ends", ("any", True)), ("ends", None), ("ends", ("pair", N)), ["ends", N],
    ("fails",), ("fails", "u"), ("fails", "c"), ("fails", ""), ("fails", 1), ("fails", ("v",)), ("fails", True), ("endless", None), ("reads",), ("reads", "d"), ("reads", None),
    ("sets", "v"), ("sets", ["c"]), ("shows", num(1)), ("asks", 1), ("waits",), "endless", N,
]


def told(e, names=(), given=BOOK86):
    return brings(given, names, e)


class Dimmed(unittest.TestCase):
    def test_calls(self):
        check_calls(self, dimmed, {"worth": num(1)}, [("worth", one, BadWorth) for one in ODDITIES + [N, ("any", 0), ("pair", num(1), N)]])

    def test_worths(self):
        for worth, found in ((num(0), N), (num(7), N), (YES, YES), (NO, NO), (("pair", num(3), ("pair", YES, num(1))), ("pair", N, ("pair", YES, N)))):
            self.assertEqual(dimmed(worth), found)


class Brings(unittest.TestCase):
    def test_calls(self):
        good = {"book": BOOK86, "names": (("x", N), ("y", ("pair", YES, N))), "e": ("pair", name("x"), name("y"))}
        bad = [("book", None, BadBook)]
        bad += [("names", one, BadNames) for one in ODDITIES if one != ()] + [("names", one, BadNames) for one in (
            [("x", N)], (("x", N), ("x", N)), (("y", N), ("x", N)), (("x", ("any", 0)),), (("x", ("pair", N, ("any", 0))),), (["x", N],), (("x",),), (("x", N, N),),
            (("if", N),), (("X", N),), ((B0, N),), (("x", num(1)),), (("x", ("truth",)),), (("x", ("pair", N)),))]
        bad += [("e", one, BadExpression) for one in ODDITIES if one != ASK] + [("e", name("z"), BadExpression), ("e", ("get", "d"), BadExpression)]
        check_calls(self, brings, good, bad)
        check_calls(self, roots, {**good, "goal": ENDS_N}, bad + [("goal", one, BadGoal) for one in NO_WHATS])

    def test_free_names(self):
        # A name that stands free where nothing is written out does not matter; one of some copies does.
        drop = own("drop", ["x"], [num(1), name("z")])
        self.assertEqual(told(drop, given=MIXED), (ENDS_N,))
        odd = own("odd", ["x"], [name("x")])
        with self.assertRaises(BadExpression):
            told(odd, given=MIXED)
        self.assertEqual(told(odd, (("x", YES),), MIXED), (ENDS_N,))
        self.assertEqual(told(("let", "y", num(1), name("y")), (("z", YES),)), (ENDS_N,))

    def test_core(self):
        for e, found in (
            (num(3), (ENDS_N,)), (YES, (ENDS_YES,)), (ASK, (ENDS_N, ASKS)), (("get", "c"), (ENDS_N, READS)), (("set", "c", ASK), (ENDS_N, SETS, ASKS)), (("show", NO), (ENDS_NO, SHOWS)),
            (("fail", "w"), (("fails", "w"),)), (("fail", "u"), (OTHER,)), (LESS, (ENDS_YES, ENDS_NO, ASKS)), (("plus", num(1), num(1)), (ENDS_N,)), (LOOP, (ENDLESS,)),
            (("pair", LESS, num(1)), (("ends", ("pair", YES, N)), ("ends", ("pair", NO, N)), ASKS)), (("first", ("pair", YES, LESS)), (ENDS_YES, ASKS)), (("second", ("pair", YES, LESS)), (ENDS_YES, ENDS_NO, ASKS)),
            (("let", "x", LESS, ("pair", name("x"), name("x"))), (("ends", ("pair", YES, YES)), ("ends", ("pair", NO, NO)), ASKS)),
            (("let", "x", LESS, ("if", name("x"), ("if", name("x"), num(1), ("fail", "w")), YES)), (ENDS_N, ENDS_YES, ASKS)),
            (("if", LESS, ("fail", "w"), ("show", num(1))), (ENDS_N, ("fails", "w"), SHOWS, ASKS)), (("if", YES, num(1), ("fail", "w")), (ENDS_N,)),
            (("while", LESS, num(1)), (ENDS_N, ENDLESS, ASKS)), (("while", LESS, ("fail", "w")), (ENDS_N, ("fails", "w"), ASKS)), (("while", NO, ("fail", "w")), (ENDS_N,)), (("while", YES, ("fail", "w")), (("fails", "w"),)),
            (("while", ("fail", "w"), num(1)), (("fails", "w"),)), (("then", LOOP, ("show", num(1))), (ENDLESS,)), (("then", ("fail", "w"), ASK), (("fails", "w"),)),
            (("catch", "w", ("fail", "w"), NO), (ENDS_NO,)), (("catch", "w", ("fail", "v"), NO), (("fails", "v"),)), (("catch", "w", num(1), NO), (ENDS_N,)), (("catch", "w", ("if", LESS, ASK, ("fail", "w")), ("fail", "w")), (ENDS_N, ("fails", "w"), ASKS)),
            (("catch", "u", ("fail", "u"), ("fail", "t")), (OTHER,)), (("catch", "u", ("fail", "t"), num(1)), (OTHER,)), (("catch", "w", LOOP, num(1)), (ENDLESS,)),
            (("let", "x", ("fail", "w"), LOOP), (("fails", "w"),)), (("plus", ("set", "c", num(1)), ("get", "c")), (ENDS_N, READS, SETS)),
        ):
            self.assertEqual(told(e), found, e)

    def test_stuck(self):
        # What is stuck comes to nothing further.
        for e, found in (
            (("first", num(1)), ()), (("second", YES), ()), (("if", num(1), ASK, ASK), ()), (("while", num(1), ASK), ()), (("plus", YES, ASK), (ASKS,)), (("less", ASK, ("show", NO)), (SHOWS, ASKS)),
            (("set", "c", ("show", YES)), (SHOWS,)), (("then", ("first", ASK), ("fail", "w")), (ASKS,)), (("if", ("if", LESS, YES, num(1)), num(1), num(2)), (ENDS_N, ASKS)), (("while", ("if", LESS, YES, num(1)), num(1)), (ENDLESS, ASKS)),
            (("first", ("if", LESS, num(1), ("pair", YES, YES))), (ENDS_YES, ASKS)),
        ):
            self.assertEqual(told(e), found, e)

    def test_names_keep_their_worths(self):
        names = (("x", ("pair", YES, N)), ("y", NO))
        self.assertEqual(told(name("x"), names), (("ends", ("pair", YES, N)),))
        self.assertEqual(told(("if", ("first", name("x")), name("y"), ASK), names), (ENDS_NO,))
        self.assertEqual(told(("let", "y", YES, ("if", name("y"), num(1), ASK)), names), (ENDS_N,))
        self.assertEqual(told(("let", "z", name("y"), ("while", name("z"), num(1))), names), (ENDS_N,))

    def test_order(self):
        e = ("if", LESS, ("if", LESS, ("if", LESS, ("pair", NO, YES), ("pair", YES, num(1))), ("if", LESS, ("pair", num(1), YES), num(1))), ("if", LESS, ("if", LESS, NO, YES), ("if", LESS, ("fail", "a"), ("fail", "w"))))
        e = ("then", ("set", "d", ("get", "d")), ("then", ("set", "c", ("get", "c")), ("if", LESS, e, ("if", LESS, ("fail", "v"), ("while", LESS, ("show", num(1)))))))
        given = book(*BOOK86[2], cells=("d", "c"))
        self.assertEqual(told(e, given=given), (
            ENDS_N, ENDS_YES, ENDS_NO, ("ends", ("pair", N, YES)), ("ends", ("pair", YES, N)), ("ends", ("pair", NO, YES)), ("fails", "v"), ("fails", "w"), OTHER, ENDLESS,
            ("reads", "d"), READS, ("sets", "d"), SETS, SHOWS, ASKS))

    def test_example(self):
        """[86], word for word."""
        self.assertEqual(told(USE86), (ENDS_N, ENDLESS, READS, SETS, ASKS))
        self.assertEqual(roots(BOOK86, (), USE86, SETS), ((),))
        self.assertEqual(roots(BOOK86, (), USE86, READS), ((3, 1, 1),))

    def test_faults_of_other_forms(self):
        # Each rule of the book counts, whether or not it is used.
        given = book(form("one", 0, 1, None, P0), form("two", 0, 1, (0, 0), P0, ("catch", "u", ("rest",), P0)), form("three", 0, 1, None, ("then", P0, ("fail", "z"))))
        for fault in ("u", "z", "v"):
            self.assertEqual(told(own("one", [], [("fail", fault)]), given=given), (("fails", fault),) if fault != "v" else (OTHER,))

    def test_what_parts_see(self):
        # A part sees at each copy what is let around it.
        seen = ("if", name("x"), num(1), ("fail", "w"))
        given = book(form("one", 1, 1, None, ("pair", ("let", B0, YES, P0), ("let", B0, NO, P0))), form("two", 1, 1, None, ("pair", P0, ("let", B0, YES, P0))), cells=("c",))
        self.assertEqual(told(own("one", ["x"], [("show", seen)]), given=given), (OTHER, SHOWS))
        self.assertEqual(told(own("one", ["x"], [name("x")]), given=given), (("ends", ("pair", YES, NO)),))
        self.assertEqual(told(("let", "x", NO, own("two", ["x"], [name("x")])), given=given), (("ends", ("pair", NO, YES)),))
        self.assertEqual(told(("let", "x", NO, own("two", ["y"], [("pair", name("x"), name("x"))])), given=given), (("ends", ("pair", ("pair", NO, NO), ("pair", NO, NO))),))
        rows = own("seq", [], [("pair", name("x"), name("y"))], [("x", [YES]), ("y", [name("x")])])
        self.assertEqual(told(rows, given=MIXED), (("ends", ("pair", YES, YES)),))

    def test_great_books(self):
        """What is written out has thousands or millions of nodes."""
        for times, made in ((2, side_by_side), (3, side_by_side), (2, inside), (3, inside)):
            given = chain(times, made, 12)
            word = given[2][-1][1]
            e = own(word, ["x"], [("show", ("if", ("less", name("x"), ASK), name("x"), ("fail", "w")))])
            self.assertEqual(told(e, given=given), (ENDS_N, OTHER, SHOWS, ASKS))
            self.assertEqual(roots(given, (), e, OTHER), ((3, 0, 1, 3),))
        words = "abcdefghijkl"
        forms = [form("fa", 0, 1, None, ("catch", "w", ("then", P0, ("set", "c", P0)), ("then", P0, ("get", "c"))))]
        for one, other in zip(words, words[1:]):
            use = own("f" + one, [], [own("f" + one, [], [("catch", "v", P0, ("fail", "w"))])])
            forms.append(form("f" + other, 0, 1, None, ("then", use, own("f" + one, [], [("show", own("f" + one, [], [P0]))]))))
        given = book(*forms, cells=("c",))
        self.assertEqual(told(own("fl", [], [num(1)]), given=given), (ENDS_N, SETS, SHOWS))
        self.assertEqual(told(own("fl", [], [("fail", "w")]), given=given), (("fails", "w"),))
        # 59 uses within one another, of forms each of which is made so.
        forms = [form("fa", 0, 1, None, P0)]
        for one, other in zip(words, words[1:]):
            e = P0
            for _ in range(59):
                e = own("f" + one, [], [e])
            forms.append(form("f" + other, 0, 1, None, e))
        self.assertEqual(told(own("fl", [], [("show", LESS)]), given=book(*forms)), (ENDS_YES, ENDS_NO, SHOWS, ASKS))

    def test_small_books(self):
        """It is what comes where all is written out."""
        tried = 0
        for seed in range(40):
            maker = Maker(seed, cells=[(), ("c",), ("c", "d")][seed % 3])
            given = maker.book(3)
            for _ in range(3):
                e = maker.expression(given, 4)
                names = tuple((x, maker.pick([N, YES, NO, ("pair", N, YES), ("pair", YES, NO)])) for x in ("p", "q", "t", "u", "v", "x", "y", "z"))
                try:
                    found = naiveruns.brings(given, names, e)
                except naive.TooLong:
                    continue
                tried += 1
                self.assertEqual(brings(given, names, e), found)
                for goal in found + (ENDLESS, OTHER, ENDS_YES):
                    self.assertEqual(roots(given, names, e, goal), naiveruns.roots(given, names, e, goal), (seed, goal))
        self.assertGreater(tried, 100)

    def test_real_runs(self):
        """What a run comes to is among them."""
        tried = set()
        for seed in range(60):
            maker = Kindly(seed, cells=("c",))
            given = maker.book(2)
            maker.told, maker.binding, maker.leaves = given, {"r": None, "s": None}, {}
            e = maker.node(maker.pick(maker.kinds), 4, {})
            if kind_of(given, e) is None or not is_closed(given, e):
                continue
            found = brings(given, (), e)
            faults = naiveruns.faults_in(given)
            for _ in range(5):
                events, end = run(given, e, [maker.random.randint(0, 7) for _ in range(8)], 60)
                for event in events:
                    self.assertIn((event[0].replace("ed", "s").replace("wn", "ws") if event[0] == "asked" else "shows",), found)
                if end[0] in ("ends", "fails"):
                    what = ("ends", dimmed(end[1])) if end[0] == "ends" else naiveruns.told(faults, end)
                    self.assertIn(what, found)
                    tried.add(what[0])
                if end == ("never",):
                    self.assertIn(ENDLESS, found)
        self.assertEqual(tried, {"ends", "fails"})


class Roots(unittest.TestCase):
    def check(self, e, goal, *paths, names=(), given=BOOK86):
        self.assertEqual(roots(given, names, e, goal), paths)

    def test_items(self):
        e = ("pair", ("get", "c"), ("then", ("get", "c"), ("show", ("set", "c", ASK))))
        self.check(e, READS, (1,), (2, 1))
        self.check(e, SETS, (2, 2, 1))
        self.check(e, SHOWS, (2, 2))
        self.check(e, ASKS, (2, 2, 1, 2))
        self.check(e, ("ends", ("pair", N, N)), ())
        self.check(e, ENDS_N)
        self.check(e, ("ends", ("any", 0)))
        # What does not come, or is stuck, brings nothing.
        self.check(("if", NO, ASK, ("then", ("fail", "w"), ASK)), ASKS)
        self.check(("set", "c", YES), SETS)
        self.check(("then", ("first", num(1)), ASK), ASKS)
        self.check(("if", LESS, ("show", ("fail", "w")), num(1)), SHOWS)

    def test_faults(self):
        e = ("catch", "w", ("then", ("if", LESS, ("fail", "w"), ("fail", "v")), ("fail", "v")), ("if", LESS, ("fail", "w"), ("fail", "t")))
        self.check(e, ("fails", "v"), (2, 1, 3))
        self.check(e, ("fails", "w"), (3, 2))
        self.check(e, OTHER, (3, 3))
        # Faults that stand in no rule are one what.
        self.check(("if", LESS, ("fail", "t"), ("catch", "s", ("if", LESS, ("fail", "s"), ("fail", "u")), num(1))), OTHER, (2,), (3, 2, 3))
        self.check(num(1), ("fails", "w"))

    def test_endless(self):
        inner, outer = ("while", LESS, num(1)), ("while", YES, ("while", LESS, num(1)))
        self.check(inner, ENDLESS, ())
        self.check(outer, ENDLESS, (), (2,))
        self.check(("while", YES, LOOP), ENDLESS, (2,))
        self.check(("while", LOOP, num(1)), ENDLESS, (1,))
        self.check(("while", NO, LOOP), ENDLESS)
        self.check(("while", YES, ("fail", "w")), ENDLESS)
        self.check(("catch", "w", ("while", YES, ("fail", "w")), LOOP), ENDLESS, (3,))
        self.check(("let", "x", LOOP, LOOP), ENDLESS, (2,))

    def test_uses_that_the_user_wrote(self):
        given = book(form("one", 0, 1, None, ("then", ("show", num(1)), ("while", P0, ("fail", "w")))), form("two", 0, 1, None, own("one", [], [("show", P0)])), form("drop", 0, 1, None, ASK), cells=("c",))
        # What came of a rule is brought by the use that the user wrote; what stands in its part by itself.
        e = ("then", own("two", [], [NO]), own("two", [], [("then", own("one", [], [NO]), ("show", YES))]))
        self.check(e, SHOWS, (1,), (2,), (2, 3, 0, 1), (2, 3, 0, 2), given=given)
        self.check(e, ("fails", "w"), (2,), given=given)
        self.check(e, ENDS_N, given=given)
        self.check(own("two", [], [LESS]), ENDS_N, (), given=given)
        self.check(own("two", [], [LESS]), ASKS, (3, 0, 1), given=given)
        self.check(own("drop", [], [ASK]), ASKS, (), given=given)
        looping = book(form("one", 0, 2, None, ("while", P0, P1)), cells=("c",))
        self.check(own("one", [], [YES, num(1)]), ENDLESS, (), given=looping)
        self.check(own("one", [], [YES, LOOP]), ENDLESS, (3, 1), given=looping)
        self.check(own("one", [], [LESS, ("while", LESS, ASK)]), ENDLESS, (), (3, 1), given=looping)
        rows = own("seq", [], [name("x")], [("x", [ASK]), ("y", [("get", "c")])])
        self.check(rows, ASKS, (4, 0, 1, 0), given=MIXED)
        self.check(rows, READS, (4, 1, 1, 0), given=MIXED)


if __name__ == "__main__":
    unittest.main()
