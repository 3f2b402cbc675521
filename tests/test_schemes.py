import unittest

from formrules.errors import BadBook, BadForm, BadMany, BadNames, BadParts, BadScheme, BadSignature, TooMany
from formrules.schemes import fits, is_scheme, scheme

from calls import check_calls
from fixtures import (
    ASK, B0, B1, BOOK58, H0, MIXED, NO, ODDITIES, P0, P1, P2, R0, YES, book, chain, form, inside, name, num, own,
    side_by_side,
)

N, T = ("number",), ("truth",)
A0, A1, A2 = ("any", 0), ("any", 1), ("any", 2)
SCHEME58 = ("scheme", (
    (P0, (), T),
    (P1, ((B0, N),), ("pair", A0, A1)),
    (P1, ((B0, T),), A0),
    (P0, ((B0, T),), A1),
), ("pair", A0, A1))


def told_of(binds, parts, *rules, row=None, ahead=(), many=0):
    """Give the scheme of a form with these rules."""
    return scheme(book(*ahead, form("new", binds, parts, row, *rules), cells=("c",)), "new", many)


class IsScheme(unittest.TestCase):
    def test_schemes(self):
        seen = ((B0, N), (("bind", 1), A0), (("row", 0, 0), T), (("row", 0, 1), T), (("row", 1, 0), A2))
        for thing in (SCHEME58, ("scheme", (), N), ("scheme", ((("here", 7, 3), seen, A0),) * 2, A1)):
            self.assertIs(is_scheme(thing=thing), True)

    def test_no_schemes(self):
        def with_seat(seat):
            return ("scheme", (seat,), N)

        for thing in ODDITIES + [
            ("scheme", ()), ("scheme", (), 1), ["scheme", (), N], ("scheme", [], N), ("scheme", (), N, N), ("plain", (), N),
            with_seat((P0, ())), with_seat([P0, (), N]), with_seat((P0, [], N)), with_seat((P0, (), 1)), with_seat((B0, (), N)),
            with_seat((("part", True), (), N)), with_seat((("part", -1), (), N)), with_seat((("part", 0, 0), (), N)),
            with_seat((("here", 0), (), N)), with_seat((("here", 0, -1), (), N)), with_seat((["part", 0], (), N)),
            with_seat((P0, (B0, N), N)), with_seat((P0, ((P0, N),), N)), with_seat((P0, ((B0, N), (B0, N)), N)),
            with_seat((P0, ((B1, N), (B0, N)), N)), with_seat((P0, ((("row", 0, 0), N), (B0, N)), N)),
            with_seat((P0, ([B0, N],), N)), with_seat((P0, ((B0, 1),), N)), with_seat((P0, ((B0,),), N)),
            with_seat((P0, ((("bind", False), N),), N)), with_seat((P0, ((("row", 0), N),), N)), with_seat((("rest",), (), N)),
        ]:
            self.assertIs(is_scheme(thing), False, thing)


class Scheme(unittest.TestCase):
    def test_calls(self):
        bad = [("book", None, BadBook), ("book", ("book", (), [()]), BadBook)]
        bad += [("name", thing, BadForm) for thing in ("none", None, 1, ["seq"])]
        bad += [("many", thing, BadMany) for thing in (-1, 9, True, None, "1")]
        check_calls(self, scheme, {"book": MIXED, "name": "seq", "many": 1}, bad)
        check_calls(self, scheme, {"book": MIXED, "name": "odd", "many": 0}, [("many", 1, BadMany)])

    def test_example(self):
        self.assertEqual(scheme(BOOK58, "f", 0), SCHEME58)

    def test_each_node(self):
        for rule, told in (
            (P0, ((P0, (), A0), A0)), (num(1), (N,)), (NO, (T,)), (ASK, (N,)), (("get", "c"), (N,)), (("fail", "w"), (A0,)),
            (("set", "c", P0), ((P0, (), N), N)), (("show", P0), ((P0, (), A0), A0)),
            (("first", P0), ((P0, (), ("pair", A0, A1)), A0)), (("second", P0), ((P0, (), ("pair", A0, A1)), A1)),
            (("pair", P0, P1), ((P0, (), A0), (P1, (), A1), ("pair", A0, A1))),
            (("if", P0, P1, P2), ((P0, (), T), (P1, (), A0), (P2, (), A0), A0)),
            (("while", P0, P1), ((P0, (), T), (P1, (), A0), N)),
            (("then", P0, P1), ((P0, (), A0), (P1, (), A1), A1)),
            (("catch", "w", P0, P1), ((P0, (), A0), (P1, (), A0), A0)),
            (("let", B0, P0, P1), ((P0, (), A0), (P1, ((B0, A0),), A1), A1)),
            (("let", "t", P0, ("pair", name("t"), P1)), ((P0, (), A0), (P1, (), A1), ("pair", A0, A1))),
            (("let", B0, P0, ("if", name(B0), P1, P1)), ((P0, (), T), (P1, ((B0, T),), A0), A0)),
        ):
            self.assertEqual(told_of(1, 3, rule), ("scheme", told[:-1], told[-1]), rule)

    def test_none(self):
        for rule in (("if", num(1), P0, P0), ("first", num(1)), ("let", "t", P0, ("if", name("t"), ("first", name("t")), P1)),
                     ("let", "t", P0, ("if", YES, name("t"), ("pair", name("t"), P1)))):
            self.assertIsNone(told_of(0, 2, rule))
        self.assertIsNone(scheme(MIXED, "broken", 0))
        # A form without a scheme makes each use of it have none, but not where nothing is asked.
        self.assertIsNone(told_of(0, 1, own("broken", [], [P0]), ahead=MIXED[2][-2:-1]))
        dropped = own("drop", ["t"], [P0, own("broken", [], [P1])])
        self.assertEqual(told_of(0, 2, dropped, ahead=MIXED[2][3:6]), ("scheme", ((P0, (), A0),), N))

    def test_nearest_lets(self):
        rule = ("let", B0, num(1), ("let", B0, YES, ("let", B1, P0, P1)))
        self.assertEqual(told_of(2, 2, rule), ("scheme", (
            (P0, ((B0, T),), A0), (P1, ((B0, T), (B1, A0)), A1)), A1))

    def test_forms_within(self):
        twice = [MIXED[2][1]]
        rule = own("twice", [B1], [P0, ("pair", name(B1), P1)])
        self.assertEqual(told_of(2, 2, rule, ahead=twice), ("scheme", (
            (P0, (), A0), (P1, ((B1, A0),), A1)), ("pair", A0, A1)))
        rule = own("twice", ["t"], [P0, ("if", name("t"), P1, P2)])
        self.assertEqual(told_of(0, 3, rule, ahead=twice), ("scheme", (
            (P0, (), T), (P1, (), A0), (P2, (), A0)), A0))
        rule = ("let", B0, num(1), own("twice", [B0], [P0, P1]))
        self.assertEqual(told_of(1, 2, rule, ahead=twice), ("scheme", (
            (P0, ((B0, N),), A0), (P1, ((B0, A0),), A1)), A1))
        # Each seat of a part brings its seats once more: the part of odd has two.
        rule = own("odd", [B0], [("pair", P0, own("odd", ["t"], [P1]))])
        self.assertEqual(told_of(1, 2, rule, ahead=MIXED[2][:1]), ("scheme", (
            (P0, (), A0), (P1, (), A1), (P0, ((B0, N),), A2), (P1, ((B0, N),), ("any", 3))), ("pair", A2, ("any", 3))))

    def test_rows(self):
        self.assertEqual(scheme(MIXED, "seq", 0), ("scheme", ((P0, (), A0),), A0))
        self.assertEqual(scheme(MIXED, "seq", 2), ("scheme", (
            (("here", 0, 0), (), A0), (("here", 1, 0), ((("row", 0, 0), A0),), A1),
            (P0, ((("row", 0, 0), A0), (("row", 1, 0), A1)), A2),
        ), A2))
        pairs = ("pair", H0, ("rest",))
        self.assertEqual(told_of(0, 0, num(0), pairs, row=(0, 1), many=2), ("scheme", (
            (("here", 0, 0), (), A0), (("here", 1, 0), (), A1)), ("pair", A0, ("pair", A1, N))))
        # Both rests stand in a let of a name of the first row, of unlike kinds.
        rule = ("pair", ("let", R0, num(1), ("rest",)), ("let", R0, YES, ("rest",)))
        self.assertEqual(told_of(0, 1, P0, rule, row=(1, 0), many=1), ("scheme", (
            (P0, ((("row", 0, 0), N),), A0), (P0, ((("row", 0, 0), T),), A1)), ("pair", A0, A1)))
        self.assertIsNone(told_of(0, 1, YES, ("if", ("rest",), num(1), num(1)), row=(0, 0), many=2))
        self.assertEqual(told_of(0, 1, YES, ("if", ("rest",), num(1), num(1)), row=(0, 0), many=1), ("scheme", (), N))

    def test_seats_that_follow_are_left_out(self):
        # The first seat may become the second one; the second one has the kind of the whole.
        self.assertEqual(told_of(0, 1, ("then", P0, P0)), ("scheme", ((P0, (), A0),), A0))
        # Both could become one another: the last one is left out.
        rule = ("then", ("let", B0, num(1), P0), ("then", P1, ("then", ("let", B0, num(2), P0), num(1))))
        self.assertEqual(told_of(1, 2, rule), ("scheme", ((P0, ((B0, N),), A0), (P1, (), A1)), N))
        # Other names seen, or an unknown that stands elsewhere, keep a seat.
        self.assertEqual(told_of(0, 1, ("pair", P0, P0)), ("scheme", ((P0, (), A0), (P0, (), A1)), ("pair", A0, A1)))
        rule = ("then", P0, ("let", B0, num(1), P0))
        self.assertEqual(told_of(1, 1, rule), ("scheme", ((P0, (), A0), (P0, ((B0, N),), A1)), A1))
        # Equal seats follow from one another though all their unknowns stand elsewhere.
        rule = ("if", YES, P0, P0)
        self.assertEqual(told_of(0, 1, rule), ("scheme", ((P0, (), A0),), A0))
        rule = ("then", ("if", P0, P1, P1), ("then", P0, P1))
        self.assertEqual(told_of(0, 2, rule), ("scheme", ((P0, (), T), (P1, (), A0)), A0))
        # One that cannot become the other one stays: a number is not filled.
        rule = ("then", ("set", "c", P0), ("then", ("if", P0, P1, P1), num(1)))
        self.assertEqual(told_of(0, 2, rule), ("scheme", ((P0, (), N), (P0, (), T), (P1, (), A0)), N))

    def test_unknowns_that_stand_elsewhere_are_not_filled(self):
        rule = ("then", ("if", YES, P1, P2), ("then", ("set", "c", P1), ("set", "c", P2)))
        self.assertEqual(told_of(0, 3, rule), ("scheme", ((P1, (), A0), (P2, (), A0), (P1, (), N), (P2, (), N)), N))
        # Neither in what a seat sees.
        rule = ("then", ("let", B0, P0, P1), ("then", ("let", B0, num(1), ("set", "c", P1)), num(1)))
        self.assertEqual(told_of(1, 2, rule), ("scheme", (
            (P0, (), A0), (P1, ((B0, A0),), A1), (P1, ((B0, N),), N)), N))
        rule = ("then", ("let", B0, ("fail", "w"), P1), ("then", ("let", B0, num(1), ("set", "c", P1)), num(1)))
        self.assertEqual(told_of(1, 2, rule), ("scheme", ((P1, ((B0, N),), N),), N))

    def test_what_is_left_out_may_let_others_follow(self):
        # The second seat is equal to the first one. Without it, the first one bears its unknown alone.
        rule = ("then", ("if", YES, P0, P0), ("set", "c", P0))
        self.assertEqual(told_of(0, 1, rule), ("scheme", ((P0, (), N),), N))
        rule = ("then", ("set", "c", P0), ("then", ("if", YES, P0, P0), num(1)))
        self.assertEqual(told_of(0, 1, rule), ("scheme", ((P0, (), N),), N))
        rule = ("if", YES, P0, ("if", YES, P0, ("if", YES, P0, P0)))
        self.assertEqual(told_of(0, 1, rule), ("scheme", ((P0, (), A0),), A0))
        # The first seat becomes the second one, which bears the unknown in its first half alone then, and
        # becomes the third one.
        halves = ("let", "t", P0, ("then", ("set", "c", ("second", name("t"))), ("first", name("t"))))
        last = ("let", "t", P0, ("then", ("set", "c", ("second", name("t"))), ("if", ("first", name("t")), num(1), num(1))))
        rule = ("then", ("if", YES, ("first", P0), halves), last)
        self.assertEqual(told_of(0, 1, rule), ("scheme", ((P0, (), ("pair", T, N)),), N))
        # One unknown is filled by one kind.
        twins = ("let", "t", P0, ("if", YES, ("first", name("t")), ("second", name("t"))))
        self.assertEqual(told_of(0, 1, ("then", twins, last)), ("scheme", (
            (P0, (), ("pair", A0, A0)), (P0, (), ("pair", T, N))), N))
        # Seats of two places with one unknown: none goes ahead of the other one.
        rule = ("then", ("if", YES, P0, P1), ("then", ("if", YES, P0, P1), ("then", ("set", "c", P0), ("show", num(1)))))
        self.assertEqual(told_of(0, 2, rule), ("scheme", ((P0, (), A0), (P1, (), A0), (P0, (), A1), (P1, (), A1), (P0, (), N)), N))

    def test_too_many_seats(self):
        pairs = [P0] * 30
        while len(pairs) > 1:
            pairs = [("pair", one, other) for one, other in zip(pairs[::2], pairs[1::2])] + pairs[len(pairs) - len(pairs) % 2:]
        thirty = form("thirty", 0, 1, None, pairs[0])
        self.assertEqual(len(scheme(book(thirty), "thirty", 0)[1]), 30)

        def behind(rule, *more):
            return book(thirty, form("new", 0, 1, None, rule), *more)

        three = ("pair", own("thirty", [], [P0]), ("pair", own("thirty", [], [P0]), own("thirty", [], [P0])))
        self.assertEqual(len(scheme(behind(three), "new", 0)[1]), 90)
        hundred = three
        for _ in range(10):
            hundred = ("pair", P0, hundred)
        self.assertEqual(len(scheme(behind(hundred), "new", 0)[1]), 100)
        great = behind(("pair", P0, hundred))
        with self.assertRaises(TooMany) as caught:
            scheme(great, "new", 0)
        self.assertEqual(caught.exception.most, 100)
        # Seats that are left out do not count, but the schemes of uses within do, wherever these stand.
        user = form("user", 0, 1, None, ("then", ("show", own("new", [], [P0])), num(1)))
        with self.assertRaises(TooMany):
            scheme(book(*great[2], user), "user", 0)
        few = behind(("then", ("pair", P0, hundred), num(1)))
        self.assertEqual(scheme(few, "new", 0), ("scheme", ((P0, (), A0),), N))
        drop = form("drop", 0, 1, None, num(1))
        user = form("user", 0, 1, None, own("drop", [], [own("new", [], [P0])]))
        with self.assertRaises(TooMany):
            scheme(book(*great[2], drop, user), "user", 0)
        # Of rest likewise.
        rest = form("rests", 0, 0, (0, 1), num(0), ("pair", H0, ("pair", H0, ("pair", ("rest",), ("rest",)))))
        self.assertEqual(len(scheme(book(rest), "rests", 5)[1]), 62)
        for many in (6, 7, 8):
            with self.assertRaises(TooMany):
                scheme(book(rest), "rests", many)

    def test_too_great_kinds(self):
        def doubled(times):
            e = ("let", "t", P0, name("t"))
            for _ in range(times):
                e = ("let", "t", e, ("pair", name("t"), name("t")))
            return e

        self.assertEqual(told_of(0, 1, doubled(1)), ("scheme", ((P0, (), A0),), ("pair", A0, A0)))
        told_of(0, 1, doubled(6))
        for times in (7, 11):
            with self.assertRaises(TooMany) as caught:
                told_of(0, 1, doubled(times))
            self.assertEqual(caught.exception.most, 100)
        # 127 nodes, and two more for each pair around it.
        for more, right in ((36, True), (37, False)):
            e = doubled(6)
            for _ in range(more):
                e = ("pair", e, num(1))
            if right:
                told_of(0, 1, e)
            else:
                with self.assertRaises(TooMany):
                    told_of(0, 1, e)
        # Kinds that no seat and not the whole has do not count.
        self.assertEqual(told_of(0, 1, ("then", doubled(15), num(1))), ("scheme", ((P0, (), A0),), N))
        # Kinds of names that a seat sees do.
        with self.assertRaises(TooMany):
            told_of(1, 2, ("let", B0, doubled(7), ("then", P1, num(1))))

    def test_great_books(self):
        for made in (inside, side_by_side):
            told = chain(3, made)
            for one in told[2]:
                self.assertEqual(scheme(told, one[1], 0), ("scheme", ((P0, ((B0, N),), A0),), A0))


class Fits(unittest.TestCase):
    def test_calls(self):
        good = {"told": SCHEME58, "names": ((B0, "x"),), "parts": ((P0, YES), (P1, ASK)), "signature": ((), N)}
        bad = [("told", thing, BadScheme) for thing in (None, ("scheme", [], N), N)]
        bad += [("names", thing, BadNames) for thing in (
            None, [], (B0, "x"), ((B0, "if"),), ((B0, "x"), (B0, "y")), ((B0, "x"), (B1, "x")), ((P0, "x"),), ([B0, "x"],),
            ((B0, ["x"]),), ((("bind", True), "x"),), ((B0, "x", 1),))]
        bad += [("parts", thing, BadParts) for thing in (
            None, [], ((P0, YES), (P0, YES)), ((P0, P0),), ((B0, YES),), ((P0, own("f")),), ([P0, YES],), ((("part", -1), YES),))]
        bad += [("signature", thing, BadSignature) for thing in (None, N, ((), 1), ((("x", N), ("a", N)), N))]
        check_calls(self, fits, good, bad)
        # Without a part for a place that has a seat: behind BadSignature.
        for parts in ((), ((P0, YES),), ((P1, YES), (P2, YES))):
            with self.assertRaises(BadParts):
                fits(SCHEME58, (), parts, ((), N))
            with self.assertRaises(BadSignature):
                fits(SCHEME58, (), parts, N)
        self.assertIs(fits(("scheme", (), N), (), (), ((), N)), True)
        self.assertIs(fits(("scheme", (), N), (), ((P0, ("first", num(1))),), ((), N)), True)

    def test_example(self):
        for part, kind, right in ((("fail", "w"), ("pair", A0, T), True), (("fail", "w"), ("pair", N, T), True),
                                  (("fail", "w"), ("pair", A0, A1), False), (("fail", "w"), N, False),
                                  (name("x"), ("pair", A0, T), False), (name("x"), ("pair", T, T), False)):
            self.assertIs(fits(SCHEME58, ((B0, "x"),), ((P0, YES), (P1, part)), ((), kind)), right)
        # Without its name the place gives x to nobody: x is that of the signature, one and the same.
        told = ((P0, YES), (P1, name("x")))
        self.assertIs(fits(SCHEME58, (), told, ((("x", ("pair", N, T)),), ("pair", N, T))), False)
        told = ((P0, YES), (P1, ("if", name("x"), ASK, ASK)))
        self.assertIs(fits(SCHEME58, (), told, ((("x", T),), ("pair", N, T))), False)

    def test_names(self):
        told = ("scheme", ((P0, ((B0, N),), A0), (P1, (), A0)), A0)
        both = ((P0, name("x")), (P1, name("x")))
        self.assertIs(fits(told, ((B0, "x"),), both, ((("x", N),), N)), True)
        self.assertIs(fits(told, ((B0, "x"),), both, ((("x", T),), N)), False)
        self.assertIs(fits(told, ((B0, "x"),), both, ((), N)), False)
        self.assertIs(fits(told, ((B1, "x"),), both, ((("x", T),), T)), True)
        self.assertIs(fits(told, ((B0, "x"),), ((P0, name("x")), (P1, num(1))), ((), N)), True)
        self.assertIs(fits(told, ((B0, "x"),), ((P0, name("y")), (P1, num(1))), ((("y", N), ("z", T)), N)), True)
        self.assertIs(fits(told, ((B0, "x"),), ((P0, name("y")), (P1, num(1))), ((("z", T),), N)), False)

    def test_unknowns_of_a_signature_are_not_filled(self):
        told = ("scheme", ((P0, (), A0),), A0)
        self.assertIs(fits(told, (), ((P0, name("x")),), ((("x", ("any", 5)),), ("any", 5))), True)
        self.assertIs(fits(told, (), ((P0, name("x")),), ((("x", ("any", 5)),), ("any", 4))), False)
        self.assertIs(fits(told, (), ((P0, ("first", name("x"))),), ((("x", A0),), A1)), False)
        self.assertIs(fits(told, (), ((P0, ("fail", "w")),), ((), ("any", 3))), True)
        self.assertIs(fits(("scheme", ((P0, (), N),), A0), (), ((P0, name("x")),), ((("x", A0),), N)), False)
        # One filling for all seats.
        told = ("scheme", ((P0, (), A0), (P1, (), A0)), N)
        self.assertIs(fits(told, (), ((P0, num(1)), (P1, YES)), ((), N)), False)
        self.assertIs(fits(told, (), ((P0, num(1)), (P1, ASK)), ((), N)), True)
        # A part may have another signature at each seat.
        told = ("scheme", ((P0, (), N), (P0, (), T)), N)
        self.assertIs(fits(told, (), ((P0, ("fail", "w")),), ((), N)), True)
        self.assertIs(fits(told, (), ((P0, num(1)),), ((), N)), False)

    def test_kinds_are_finite(self):
        told = ("scheme", ((P0, ((B0, A0),), ("pair", A0, A0)),), N)
        self.assertIs(fits(told, ((B0, "x"),), ((P0, name("x")),), ((), N)), False)
        self.assertIs(fits(told, ((B0, "x"),), ((P0, ("pair", name("x"), name("x"))),), ((), N)), True)


if __name__ == "__main__":
    unittest.main()
