"""Plain schemes, and forms that are even."""

import unittest

from formrules.errors import BadBook, BadForm, BadMany, BadPlain, NoRows, TooMany
from formrules.evens import even_kind, first_uneven
from formrules.plains import common, is_filling, is_plain, plain
from formrules.schemes import scheme

from calls import check_calls
from fixtures import (
    B0, B1, BOOK32, BOOK47, BOOK58, H0, MIXED, NO, ODDITIES, P0, P1, P2, R0, YES, book, form, name, num, own,
)
from kindly import Kindly
from small import KINDLY, Maker

N, T = ("number",), ("truth",)
A0, A1, A2, A3 = [("any", i) for i in range(4)]
A5, A7, A8 = ("any", 5), ("any", 7), ("any", 8)
PLAIN = ("plain", ((B0, A0), (("row", 0, 1), N)), ((P0, T), (("here", 1, 0), ("pair", A0, A1))), A1)


def told_of(binds, parts, *rules, row=None, ahead=(), many=0):
    """Give the plain scheme of a form with these rules."""
    return plain(book(*ahead, form("new", binds, parts, row, *rules), cells=("c",)), "new", many)


def filled(maker, kind, filling):
    """Fill the unknowns of a kind by chance, the same ones by the same kinds."""
    if kind[0] == "any":
        return filling.setdefault(kind[1], maker.pick([N, T, A0, A1, ("pair", A2, N)]))
    return ("pair", filled(maker, kind[1], filling), filled(maker, kind[2], filling)) if kind[0] == "pair" else kind


def filling_of(maker, told):
    """Give a filling of a plain scheme, made by chance."""
    filling = {}
    names, parts = [tuple((at, filled(maker, kind, filling)) for at, kind in lot) for lot in told[1:3]]
    return ("plain", names, parts, filled(maker, told[3], filling))


class IsPlain(unittest.TestCase):
    def test_plain_schemes(self):
        # Whether some form has these places does not matter.
        for thing in (PLAIN, ("plain", (), (), N), ("plain", ((("bind", 7), N),), ((("here", 0, 9), N),), ("any", 40))):
            self.assertIs(is_plain(thing=thing), True)

    def test_no_plain_schemes(self):
        def with_names(*names):
            return ("plain", names, (), N)

        def with_parts(*parts):
            return ("plain", (), parts, N)

        row, here = ("row", 0, 0), ("here", 0, 0)
        for thing in ODDITIES + [
            ("plain",), ("plain", (), ()), ("plain", (), (), N, N), ("plain", (), (), 1), ["plain", (), (), N], ("scheme", (), (), N),
            ("plain", [], (), N), ("plain", (), [], N), with_names(B0), with_names([B0, N]), with_names((B0, 1)), with_names((B0, N, N)),
            with_names((P0, N)), with_names((("bind", True), N)), with_names((("bind", -1), N)), with_names((("bind", 0, 0), N)),
            with_names((B0, N), (B0, N)), with_names((B1, N), (B0, N)), with_names((row, N), (B0, N)), with_names((("row", 1, 0), N), (row, N)),
            with_parts((B0, N)), with_parts((here, N), (P0, N)), with_parts((P1, N), (P0, N)), with_parts((P0, N), (P0, N)),
            with_parts((("here", 0), N)), with_parts((["part", 0], N)), with_parts((("rest",), N)), ("plain", (), (), ("any", True)),
        ]:
            self.assertIs(is_plain(thing), False, thing)


class Plain(unittest.TestCase):
    def test_calls(self):
        bad = [("book", None, BadBook)] + [("name", thing, BadForm) for thing in ("none", None, 1, ["seq"])]
        bad += [("many", thing, BadMany) for thing in (-1, 9, True, None)]
        check_calls(self, plain, {"book": MIXED, "name": "seq", "many": 1}, bad)
        check_calls(self, plain, {"book": MIXED, "name": "odd", "many": 0}, [("many", 1, BadMany)])

    def test_examples(self):
        self.assertIsNone(plain(BOOK58, "f", 0))
        self.assertEqual(plain(BOOK32, "both", 0), ("plain", (), ((P0, T), (P1, T)), T))
        self.assertEqual(plain(BOOK32, "twice", 0), ("plain", ((B0, A0),), ((P0, A0), (P1, A1)), A1))
        self.assertEqual(plain(BOOK47, "seq", 2), ("plain", ((("row", 0, 0), A0), (("row", 1, 0), A1)), (
            (P0, A2), (("here", 0, 0), A0), (("here", 1, 0), A1)), A2))

    def test_one_kind_for_each_place(self):
        for rule, told in (
            (("pair", P0, P0), ("plain", ((B0, A0),), ((P0, A1), (P1, A2)), ("pair", A1, A1))),
            (("then", ("set", "c", P0), P0), ("plain", ((B0, A0),), ((P0, N), (P1, A1)), N)),
            (("then", ("let", B0, num(1), P0), ("let", B0, P1, P0)), ("plain", ((B0, N),), ((P0, A0), (P1, N)), A0)),
            (("then", ("if", P0, P1, P1), ("if", P1, P0, num(1))), None),
            (("then", ("if", P0, num(1), num(1)), ("set", "c", P0)), None),
            (("let", B0, P0, ("let", B0, YES, P1)), ("plain", ((B0, T),), ((P0, A0), (P1, A1)), A1)),
            (("first", num(1)), None),
        ):
            self.assertEqual(told_of(1, 2, rule), told, rule)
        # A place that no seat tells has an unknown of its own.
        self.assertEqual(told_of(2, 3, ("then", P1, num(1))), ("plain", ((B0, A0), (B1, A1)), ((P0, A2), (P1, A3), (P2, ("any", 4))), N))
        # Kinds are finite.
        self.assertIsNone(told_of(0, 1, ("then", ("pair", P0, P0), ("if", YES, P0, ("pair", P0, P0)))))

    def test_refused_schemes(self):
        rest = form("rests", 0, 0, (0, 1), num(0), ("pair", H0, ("pair", H0, ("pair", ("rest",), ("rest",)))))
        self.assertEqual(len(plain(book(rest), "rests", 3)[2]), 3)
        with self.assertRaises(TooMany) as caught:
            plain(book(rest), "rests", 6)
        self.assertEqual(caught.exception.most, 100)

    def test_small_books(self):
        """The weakest plain scheme makes seats alike, and no weaker one does."""
        tried = 0
        for seed in range(60):
            maker = Maker(seed, heads=KINDLY)
            told = maker.book(3)
            for one in told[2]:
                for many in range(3 if one[4] else 1):
                    try:
                        seats = scheme(told, one[1], many)
                    except TooMany:
                        continue
                    found = plain(told, one[1], many)
                    if seats is None:
                        self.assertIsNone(found)
                    elif found is not None:
                        self.assertIs(is_plain(found), True)
                        self.assertIs(fits(seats, found), True)
                        self.assertIs(fits(seats, filling_of(maker, found)), True)
                        tried += len(seats[1]) > 1
        self.assertGreater(tried, 30)


def fits(seats, told):
    """Tell whether some filling of a scheme goes by a plain scheme."""
    names, parts = dict(told[1]), dict(told[2])
    pairs = [(seats[2], told[3])]
    for place, seen, kind in seats[1]:
        pairs += [(kind, parts[place])] + [(its, names[at]) for at, its in seen]
    filling = {}

    def becomes(kind, wanted):
        if kind[0] == "any":
            return filling.setdefault(kind[1], wanted) == wanted
        if kind[0] == "pair" and wanted[0] == "pair":
            return becomes(kind[1], wanted[1]) and becomes(kind[2], wanted[2])
        return kind == wanted

    return all([becomes(kind, wanted) for kind, wanted in pairs])


class Fillings(unittest.TestCase):
    def test_calls(self):
        for function in (is_filling, common):
            bad = [("one", thing, BadPlain) for thing in (None, N, list(PLAIN), ("plain", (), (), 1))]
            bad += [("other", thing, BadPlain) for thing in (None, ("scheme", (), N), ("plain", ((P0, N),), (), N))]
            check_calls(self, function, {"one": PLAIN, "other": PLAIN}, bad)

    def told(self, first, second, whole):
        return ("plain", ((B0, first),), ((P0, second),), whole)

    def test_is_filling(self):
        weak = self.told(A0, ("pair", A0, A1), A1)
        for other, right in (
            (weak, True), (self.told(N, ("pair", N, T), T), True), (self.told(A1, ("pair", A1, A1), A1), True),
            (self.told(A5, ("pair", A5, ("pair", N, A0)), ("pair", N, A0)), True), (self.told(N, ("pair", T, T), T), False),
            (self.told(N, ("pair", N, T), A0), False), (self.told(A0, A1, A1), False), (("plain", (), ((P0, ("pair", N, N)),), N), False),
            (("plain", ((B0, N),), ((P1, ("pair", N, T)),), T), False),
        ):
            self.assertIs(is_filling(weak, other), right, other)
        self.assertIs(is_filling(self.told(N, A0, A0), self.told(A0, A0, A0)), False)

    def test_common(self):
        one, other = self.told(A0, ("pair", A0, A1), A1), self.told(A0, A0, A1)
        # Kinds are finite.
        self.assertIsNone(common(one, other))
        other = self.told(A0, A1, A0)
        self.assertEqual(common(one, other), self.told(A0, ("pair", A0, A0), A0))
        self.assertEqual(common(other, one), self.told(A0, ("pair", A0, A0), A0))
        self.assertEqual(common(one, self.told(A7, A8, N)), self.told(A0, ("pair", A0, N), N))
        self.assertIsNone(common(one, self.told(A0, N, A0)))
        self.assertIsNone(common(one, ("plain", ((B0, A0),), ((P1, A1),), A2)))
        self.assertIsNone(common(one, ("plain", (), ((P0, A1),), A2)))
        self.assertEqual(common(("plain", (), (), A3), ("plain", (), (), A3)), ("plain", (), (), A0))

    def test_what_comes_of_both(self):
        tried = {True: 0, False: 0}
        for seed in range(400):
            maker = Maker(seed)

            def kind(depth=2):
                if depth == 0 or maker.random.random() < 0.6:
                    return maker.pick([N, T, A0, A1, A2])
                return ("pair", kind(depth - 1), kind(depth - 1))

            def some():
                return ("plain", ((B0, kind()),), ((P0, kind()), (P1, kind())), kind())

            one, other = some(), some()
            both = common(one, other)
            tried[both is not None] += 1
            if both is not None:
                for told in (one, other):
                    self.assertIs(is_filling(told, both), True)
                    self.assertIs(is_filling(told, filling_of(maker, both)), True)
            third = filling_of(maker, one)
            if is_filling(other, third):
                self.assertIs(both is not None and is_filling(both, third), True)
        self.assertGreater(min(tried.values()), 25)


class Evens(unittest.TestCase):
    def told(self, none, first, ahead=(), row=(1, 1)):
        return book(*ahead, form("new", 0, 2, row, none, first), cells=("c",))

    def test_calls(self):
        bad = [("book", None, BadBook)] + [("name", thing, BadForm) for thing in ("none", None, 1)]
        for function in (even_kind, first_uneven):
            check_calls(self, function, {"book": MIXED, "name": "seq"}, bad + [("name", "odd", NoRows)])

    def test_even_kinds(self):
        for none, first, kind, uneven in (
            (P0, ("let", R0, H0, ("rest",)), A0, None),
            (num(0), ("pair", H0, ("rest",)), None, None),
            (num(0), ("if", H0, ("rest",), ("rest",)), N, None),
            (YES, ("if", ("rest",), H0, H0), T, None),
            (NO, ("if", ("rest",), num(1), num(1)), None, 2),
            (("fail", "w"), ("if", ("rest",), num(1), num(1)), None, 2),
            (("fail", "w"), ("pair", num(1), ("first", ("rest",))), ("pair", N, N), None),
            (("pair", P0, P0), ("then", ("rest",), P1), ("pair", A0, A1), None),
            (("first", num(1)), H0, None, 0), (P0, ("first", num(1)), None, 1), (("fail", "w"), ("fail", "w"), A0, None),
            (num(0), ("first", ("rest",)), None, 1), (P0, ("show", H0), A0, None), (num(0), YES, None, None),
        ):
            self.assertEqual(even_kind(self.told(none, first), "new"), kind, (none, first))
            self.assertEqual(first_uneven(self.told(none, first), "new"), uneven, (none, first))

    def test_rest_within_uses(self):
        # Rest has one kind on all roads.
        odd = form("odd", 1, 1, None, ("then", ("set", "c", P0), ("let", B0, num(1), ("if", P0, num(1), num(1)))))
        ahead = (odd,)
        self.assertIsNone(even_kind(self.told(("fail", "w"), own("odd", ["t"], [("rest",)]), ahead), "new"))
        self.assertEqual(first_uneven(self.told(("fail", "w"), own("odd", ["t"], [("rest",)]), ahead), "new"), 2)
        twin = form("twin", 0, 1, None, ("pair", P0, ("then", P0, num(1))))
        told = self.told(num(1), ("first", own("twin", [], [("rest",)])), (twin,))
        self.assertEqual(even_kind(told, "new"), N)
        drop = form("drop", 0, 1, None, num(1))
        self.assertEqual(even_kind(self.told(num(2), own("drop", [], [("first", ("rest",))]), (drop,)), "new"), N)
        broken = form("broken", 0, 0, None, ("first", num(1)))
        self.assertIsNone(even_kind(self.told(num(2), own("broken"), (broken,)), "new"))
        self.assertEqual(first_uneven(self.told(num(2), own("broken"), (broken,)), "new"), 1)

    def test_refused_schemes(self):
        great = form("great", 0, 1, None, doubled(7))
        for none, first in ((own("great", [], [P0]), num(1)), (num(1), own("great", [], [H0]))):
            with self.assertRaises(TooMany) as caught:
                even_kind(self.told(none, first, (great,)), "new")
            self.assertEqual(caught.exception.most, 100)
            with self.assertRaises(TooMany) as caught:
                first_uneven(self.told(none, first, (great,)), "new")
            self.assertEqual(caught.exception.most, 100)
        # Ahead of what is refused it is told.
        self.assertEqual(first_uneven(self.told(("first", num(1)), own("great", [], [H0]), (great,)), "new"), 0)
        # What is refused of the form itself stands in the way of first_uneven alone.
        rests = form("new", 0, 0, (0, 1), num(0), ("then", ("pair", ("rest",), ("pair", H0, H0)), ("pair", ("rest",), ("rest",))))
        self.assertIsNone(even_kind(book(rests), "new"))
        with self.assertRaises(TooMany):
            first_uneven(book(rests), "new")
        rests = form("new", 0, 0, (0, 1), num(0), ("first", ("pair", num(1), doubled(9, H0))))
        self.assertEqual(even_kind(book(rests), "new"), N)

    def test_even_forms_have_schemes(self):
        tried = 0
        for seed in range(150):
            for made in (Maker(seed, heads=KINDLY), Kindly(seed)):
                told = made.book(2)
                for one in told[2]:
                    if one[4] is None:
                        continue
                    try:
                        kind, uneven = even_kind(told, one[1]), first_uneven(told, one[1])
                    except TooMany:
                        continue
                    if kind is not None:
                        self.assertIsNone(uneven)
                        tried += 1
                        for many in range(6):
                            filling = {}
                            self.assertIs(becomes(scheme(told, one[1], many)[2], kind, filling), True)
                    for many in range(9 if uneven is None else uneven + 1):
                        self.assertEqual(scheme(told, one[1], many) is None, many == uneven)
        self.assertGreater(tried, 30)


def becomes(kind, wanted, filling):
    if kind[0] == "any":
        return filling.setdefault(kind[1], wanted) == wanted
    if kind[0] == "pair" and wanted[0] == "pair":
        return becomes(kind[1], wanted[1], filling) and becomes(kind[2], wanted[2], filling)
    return kind == wanted


def doubled(times, e=P0):
    """Give a template of a kind that is twice as great with each time."""
    e = ("let", "t", e, name("t"))
    for _ in range(times):
        e = ("let", "t", e, ("pair", name("t"), name("t")))
    return e


if __name__ == "__main__":
    unittest.main()
