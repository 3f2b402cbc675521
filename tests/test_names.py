import unittest

from formrules.books import is_expression
from formrules.errors import (
    BadBook, BadExpression, BadKnot, BadName, NotAlike, NotClear, NotSame,
)
from formrules.fewnames import fewest_names
from formrules.knots import barred, knots, moves, renamed
from formrules.leading import binders
from formrules.likeness import first_unlike, same_but_names
from formrules.spots import spots

from calls import check_calls
from fixtures import (
    ASK, B0, B1, BOOK47, E47, MIXED, ODDITIES, P0, P1, P2, book, chain, form, inside, name, num, own,
)

BAD_BOOK = [("book", None, BadBook), ("book", ("book", ("if",), ()), BadBook)]
KNOTS47 = (
    ((1,), (3, 3, 3, 0, 1)), ((3, 1), (3, 3, 3, 1, 1)), ((3, 3, 2, 0),), ((3, 3, 2, 1),),
)
FREE = ("pair", name("x"), ("let", "x", name("x"), name("x")))
# Each two of its parts see two of three names.
MIX = form("mix", 3, 3, None, ("then", (
    "let", B0, num(1), ("let", B1, num(1), P0)), ("then", (
        "let", B1, num(1), ("let", ("bind", 2), num(1), P1)), (
            "let", B0, num(1), ("let", ("bind", 2), num(1), P2)))))


class Likeness(unittest.TestCase):
    def test_calls(self):
        bad = BAD_BOOK + [("one", P0, BadExpression), ("one", own("odd"), BadExpression), ("other", None, BadExpression)]
        good = {"book": BOOK47, "one": E47, "other": E47}
        check_calls(self, same_but_names, good, bad)
        check_calls(self, first_unlike, good, bad + [("other", ASK, NotSame)])

    def test_same_but_names(self):
        one = ("let", "x", ASK, own("twin", ["y", "z"], [name("x"), name("w")]))
        other = ("let", "a", ASK, own("twin", ["b", "a"], [name("b"), name("x")]))
        self.assertIs(same_but_names(BOOK47, one, other), True)
        rows = [(["x"], [num(1)]), (["y"], [num(2)])]
        renamed_rows = [(["y"], [num(1)]), (["x"], [num(2)])]
        self.assertIs(same_but_names(MIXED, own("seq", [], [ASK], rows), own("seq", [], [ASK], renamed_rows)), True)
        for other in (own("seq", [], [ASK], rows[:1]), own("seq", [], [ASK], rows[::-1]), own("double", [], [ASK])):
            self.assertIs(same_but_names(MIXED, own("seq", [], [ASK], rows), other), False)
        for one, other in ((num(1), num(2)), (("get", "c"), ("get", "d")), (("fail", "v"), ("fail", "w")),
                           (("catch", "v", ASK, ASK), ("catch", "w", ASK, ASK)), (name("x"), num(1)),
                           (("set", "c", ASK), ("set", "d", ASK)), (("show", ASK), ASK)):
            self.assertIs(same_but_names(MIXED, one, other), False)

    def test_first_unlike(self):
        one = ("let", "x", ASK, ("let", "y", ASK, ("pair", name("x"), name("y"))))
        for other, spot in (
            (("let", "y", ASK, ("let", "x", ASK, ("pair", name("y"), name("x")))), None),
            (("let", "y", ASK, ("let", "x", ASK, ("pair", name("x"), name("x")))), (3, 3, 1, 1)),
            (("let", "x", ASK, ("let", "x", ASK, ("pair", name("x"), name("x")))), (3, 3, 1, 1)),
            (("let", "x", ASK, ("let", "y", ASK, ("pair", name("x"), name("z")))), (3, 3, 2, 1)),
        ):
            self.assertEqual(first_unlike(BOOK47, one, other), spot)
        self.assertEqual(first_unlike(BOOK47, name("x"), name("y")), (1,))
        self.assertIsNone(first_unlike(BOOK47, name("x"), name("x")))

    def test_free_copies_must_have_equal_names(self):
        one = own("odd", ["x"], [name("x")])
        self.assertEqual(first_unlike(BOOK47, one, own("odd", ["y"], [name("y")])), (3, 0, 1))
        self.assertIsNone(first_unlike(BOOK47, one, one))
        one, other = ("let", "x", ASK, one), ("let", "y", ASK, own("odd", ["y"], [name("y")]))
        self.assertIsNone(first_unlike(BOOK47, one, other))
        # A read without copies may have any name.
        one, other = own("drop", ["x"], [ASK, name("x")]), own("drop", ["x"], [ASK, name("y")])
        self.assertIsNone(first_unlike(MIXED, one, other))

    def test_without_writing_out(self):
        told = chain(3, inside)
        one = own("fk", ["x"], [own("fj", ["y"], [("plus", name("x"), name("y"))])])
        other = own("fk", ["y"], [own("fj", ["x"], [("plus", name("y"), name("x"))])])
        self.assertIsNone(first_unlike(told, one, other))
        other = own("fk", ["y"], [own("fj", ["x"], [("plus", name("x"), name("x"))])])
        self.assertEqual(first_unlike(told, one, other), (3, 0, 3, 0, 1, 1))


class Knots(unittest.TestCase):
    def test_calls(self):
        check_calls(self, knots, {"book": BOOK47, "e": E47}, BAD_BOOK + [("e", P0, BadExpression)])
        bad = BAD_BOOK + [("e", P0, BadExpression)]
        bad += [("knot", thing, BadKnot) for thing in (
            None, (), ((1,),), ((3, 3, 3, 0, 1), (1,)), list(KNOTS47[0]), ([1], (3, 3, 3, 0, 1)), KNOTS47,
            ((True,), (3, 3, 3, 0, 1)), ((1,), (3, 3, 3, False, 1)), KNOTS47[0] + KNOTS47[1],
        )]
        check_calls(self, barred, {"book": BOOK47, "e": E47, "knot": KNOTS47[0]}, bad)
        bad += [("x", thing, BadName) for thing in (None, "if", "X", 1, ("x",), "")]
        check_calls(self, renamed, {"book": BOOK47, "e": E47, "knot": KNOTS47[0], "x": "q"}, bad)

    def test_example(self):
        self.assertEqual(knots(BOOK47, E47), KNOTS47)
        self.assertEqual(barred(BOOK47, E47, KNOTS47[2]), ("w", "x"))

    def test_knots(self):
        self.assertEqual(knots(BOOK47, FREE), (((1, 1),), ((2, 1), (2, 3, 1)), ((2, 2, 1),)))
        e = ("let", "x", ASK, own("odd", ["x"], [("pair", name("x"), name("x"))]))
        self.assertEqual(knots(BOOK47, e), (((1,), (3, 2, 0), (3, 3, 0, 1, 1), (3, 3, 0, 2, 1)),))
        self.assertEqual(knots(BOOK47, ASK), ())
        self.assertEqual(knots(MIXED, own("drop", ["x"], [ASK, name("x")])), (((2, 0),), ((3, 1, 1),)))

    def test_renamed(self):
        found = renamed(BOOK47, E47, KNOTS47[0], "q")
        self.assertEqual(found, ("let", "q", num(1), ("let", "y", num(2), own("twin", ["z", "w"], [name("q"), name("y")]))))
        found = renamed(BOOK47, E47, KNOTS47[2], "w")
        self.assertEqual(found[3][3][2], ("w", "w"))
        self.assertIs(is_expression(BOOK47, found), False)
        rows = [(["x"], [num(1)]), (["y"], [name("x")])]
        knot = ((4, 0, 0, 0), (4, 1, 1, 0, 1))
        self.assertEqual(renamed(MIXED, own("seq", [], [name("y")], rows), knot, "z"),
                         own("seq", [], [name("y")], [(["z"], [num(1)]), (["y"], [name("z")])]))

    def test_barred(self):
        self.assertEqual([barred(BOOK47, E47, knot) for knot in KNOTS47], [("y", "z"), ("w", "x"), ("w", "x"), ("y", "z")])
        # A knot is fixed if one of its reads has None.
        self.assertIsNone(barred(BOOK47, FREE, ((1, 1),)))
        self.assertEqual(barred(BOOK47, FREE, ((2, 1), (2, 3, 1))), ())
        e = own("odd", ["x"], [("pair", name("x"), ("let", "y", name("x"), name("y")))])
        self.assertIsNone(barred(BOOK47, e, knots(BOOK47, e)[0]))
        self.assertEqual(barred(BOOK47, e, knots(BOOK47, e)[1]), ())
        e = ("let", "x", ASK, ("let", "y", ASK, name("x")))
        self.assertEqual(barred(BOOK47, e, ((1,), (3, 3, 1))), ("y",))
        self.assertEqual(barred(BOOK47, e, ((3, 1),)), ("x",))
        # A name that is free is caught by a let that gets it.
        e = ("let", "x", ASK, ("pair", name("x"), name("y")))
        self.assertEqual(barred(BOOK47, e, ((1,), (3, 1, 1))), ("y",))
        # Names in parts without copies bar nothing, but two names of a use must be unlike.
        e = own("twin", ["x", "y"], [ASK, ASK])
        self.assertEqual(barred(BOOK47, e, ((2, 0),)), ("y",))
        e = ("let", "y", ASK, own("drop", ["x"], [ASK, name("y")]))
        self.assertEqual(barred(MIXED, e, ((3, 2, 0),)), ())


class Moves(unittest.TestCase):
    def check(self, told, one, other):
        """Hold moves against what is promised of them; give them."""
        found = moves(told, one, other)
        self.assertIsInstance(found, tuple)
        e = one
        for knot, x in found:
            self.assertIn(knot, knots(told, one))
            places = [spot for spot in knot]
            held = e
            for at in places[0]:
                held = held[at]
            self.assertNotEqual(held, x)
            self.assertIsNotNone(barred(told, e, knot))
            self.assertNotIn(x, barred(told, e, knot))
            e = renamed(told, e, knot, x)
        self.assertEqual(e, other)
        self.assertEqual(moves(told, one, other), found)
        return found

    def test_calls(self):
        bad = BAD_BOOK + [("one", P0, BadExpression), ("other", None, BadExpression), ("other", ASK, NotSame)]
        bad.append(("other", ("let", "x", num(1), ("let", "x", num(2), E47[3][3])), NotAlike))
        check_calls(self, moves, {"book": BOOK47, "one": E47, "other": E47}, bad)

    def test_moves(self):
        self.assertEqual(self.check(BOOK47, E47, E47), ())
        one = ("let", "x", ASK, ("let", "y", ASK, ("pair", name("x"), name("y"))))
        other = ("let", "y", ASK, ("let", "x", ASK, ("pair", name("y"), name("x"))))
        self.check(BOOK47, one, other)
        self.check(BOOK47, own("twin", ["x", "y"], [name("x"), name("y")]), own("twin", ["y", "x"], [name("y"), name("x")]))
        ring = own("mix", ["x", "y", "z"], [("pair", name("x"), name("y")), name("z"), name("z")])
        turned = own("mix", ["y", "z", "x"], [("pair", name("y"), name("z")), name("x"), name("x")])
        self.check(book(MIX), ring, turned)
        # The free y stays, and x may not be called so on the way.
        one = ("pair", name("a"), ("let", "x", ASK, ("pair", name("x"), name("b"))))
        other = ("pair", name("a"), ("let", "a", ASK, ("pair", name("a"), name("b"))))
        self.check(BOOK47, one, other)
        self.check(MIXED, own("drop", ["x"], [ASK, name("x")]), own("drop", ["y"], [ASK, name("z")]))

    def test_not_alike(self):
        with self.assertRaises(NotAlike):
            moves(BOOK47, name("x"), name("y"))
        with self.assertRaises(NotAlike):
            moves(BOOK47, own("odd", ["x"], [name("x")]), own("odd", ["y"], [name("y")]))


class FewestNames(unittest.TestCase):
    def get_on(self, told, e, one, other):
        """Tell whether two binders get on, as the document tells it."""
        words = iter(["n" + a + b for a in "abcdefghijklm" for b in "abcdefghijklm"])
        changed = e
        both = [knot for knot in knots(told, e) if one in knot or other in knot]
        for knot in knots(told, e):
            x = "same" if knot in both else next(words)
            for spot in knot:
                changed = self.put(changed, spot, x)
        return is_expression(told, changed) and first_unlike(told, e, changed) is None

    def put(self, thing, path, x):
        if not path:
            return x
        return tuple(self.put(item, path[1:], x) if at == path[0] else item for at, item in enumerate(thing))

    def check(self, told, e, many):
        groups, lot = fewest_names(told, e)
        self.assertEqual((len(groups), len(lot)), (many, many))
        self.assertEqual(sorted(one for group in groups for one in group), list(spots(told, e)[0]))
        for lots in groups + (lot, groups):
            self.assertIsInstance(lots, tuple)
            self.assertEqual(list(lots), sorted(lots))
        for group in groups:
            for at, one in enumerate(group):
                for other in group[at + 1:]:
                    self.assertTrue(self.get_on(told, e, one, other), (one, other))
        for at, one in enumerate(lot):
            for other in lot[at + 1:]:
                self.assertFalse(self.get_on(told, e, one, other), (one, other))

    def test_calls(self):
        bad = BAD_BOOK + [("e", P0, BadExpression), ("e", name("x"), NotClear)]
        check_calls(self, fewest_names, {"book": BOOK47, "e": E47}, bad)

    def test_example(self):
        self.assertEqual(fewest_names(BOOK47, E47), (
            (((1,), (3, 3, 2, 1)), ((3, 1), (3, 3, 2, 0))), ((1,), (3, 1)),
        ))

    def test_not_clear(self):
        for e, spot in ((("pair", ("let", "x", ASK, name("x")), ("pair", name("y"), name("z"))), (2, 1, 1)),
                        (("let", "x", ASK, own("odd", ["x"], [name("x")])), (3, 3, 0, 1)),
                        (own("drop", ["x"], [ASK, name("x")]), (3, 1, 1))):
            with self.assertRaises(NotClear) as caught:
                fewest_names(MIXED, e)
            self.assertEqual(caught.exception.spot, spot)
            self.assertEqual([path for path, found in binders(MIXED, e).items() if len(found) != 1 or None in found][0], spot)

    def test_lets(self):
        self.check(BOOK47, ASK, 0)
        self.check(BOOK47, ("let", "x", ASK, ("let", "y", ASK, ASK)), 1)
        self.check(BOOK47, ("let", "x", ASK, ("let", "y", name("x"), name("y"))), 1)
        self.check(BOOK47, ("let", "x", ASK, ("let", "y", ASK, name("x"))), 2)
        three = ("let", "x", ASK, ("let", "y", ASK, ("let", "z", ASK, ("pair", name("x"), ("pair", name("y"), name("z"))))))
        self.check(BOOK47, three, 3)
        self.check(BOOK47, ("then", three, ("let", "w", three, name("w"))), 3)

    def test_uses(self):
        self.check(BOOK47, own("twin", ["x", "y"], [ASK, ASK]), 2)
        self.check(BOOK47, own("odd", ["x"], [ASK]), 1)
        self.check(BOOK47, ("let", "x", ASK, own("odd", ["y"], [name("x")])), 2)
        rows = [(["x"], [num(1)]), (["y"], [name("x")]), (["z"], [name("y")])]
        self.check(MIXED, own("seq", [], [name("z")], rows), 3)
        # A row's name stands behind what stands in the parts, in the order of tuples.
        e = own("seq", [], [("let", "y", ASK, name("y"))], [(["x"], [num(1)])])
        self.assertEqual(fewest_names(MIXED, e)[0], (((3, 0, 1), (4, 0, 0, 0)),))
        e = own("seq", [], [("let", "y", ASK, name("x"))], [(["x"], [num(1)])])
        self.assertEqual(fewest_names(MIXED, e)[0], (((3, 0, 1),), ((4, 0, 0, 0),)))

    def test_what_is_matched_may_have_to_be_matched_anew(self):
        alone = form("alone", 3, 3, None, ("then", ("let", B0, num(1), P0), (
            "then", ("let", B1, num(1), P1), ("let", ("bind", 2), num(1), P2))))
        both = ("pair", name("a"), name("b"))
        for parts in ([both, num(0), name("b")], [both, name("b"), num(0)], [name("b"), both, num(0)], [num(0), name("b"), both],
                      [("pair", name("b"), name("a")), num(0), name("a")], [name("a"), num(0), both]):
            e = ("let", "a", ASK, ("let", "b", ASK, own("alone", ["p", "q", "r"], parts)))
            self.check(book(alone), e, 3)

    def test_matchings_tell(self):
        def around(parts):
            e = own("mix", ["p", "q", "r"], parts)
            for x in "cba":
                e = ("let", x, ASK, e)
            return e

        def read(letters):
            e = num(0)
            for x in letters:
                e = ("pair", name(x), e)
            return e

        told = book(MIX)
        # Part 0 does not see r, part 1 does not see p, part 2 does not see q.
        self.check(told, around([read("a"), read("b"), read("c")]), 3)
        self.check(told, around([read("a"), read("ab"), read("c")]), 4)
        self.check(told, around([read("abc"), read(""), read("")]), 5)
        self.check(told, around([read("abc"), read("abc"), read("")]), 6)
        self.check(told, around([read("ab"), read("a"), read("c")]), 4)
        self.check(told, around([read(""), read(""), read("")]), 3)
        self.check(told, around([read("pa"), read("qb"), read("rc")]), 3)


if __name__ == "__main__":
    unittest.main()
