import unittest

from formrules.clashes import clash, is_clash
from formrules.errors import BadBook, BadExpression, TooMany
from formrules.kindings import is_kinding, kinding
from formrules.kinds import kind_of, signature_of

from calls import check_calls
from fixtures import (
    ASK, B0, BOOK58, MIXED, NO, ODDITIES, P0, P1, YES, book, chain, form, inside, name, num, own, side_by_side, sized,
)

N, T = ("number",), ("truth",)
A0, A1, A2 = ("any", 0), ("any", 1), ("any", 2)
CALLS = [("book", None, BadBook), ("book", ("book", (), [()]), BadBook), ("e", P0, BadExpression), ("e", own("none"), BadExpression)]
USE58 = own("f", ["x"], [YES, ("fail", "w")])
WRONG58 = own("f", ["x"], [YES, name("x")])
# pairs of so many parts: the seats of the part of the last form are more than 100.
GREAT = [form("ga", 0, 1, None, ("pair", P0, ("pair", P0, ("pair", P0, P0))))]
for letter in "bcd":
    GREAT.append(form("g" + letter, 0, 1, None, own(GREAT[-1][1], [], [own("ga", [], [P0])])))
DOUBLE = form("double", 0, 1, None, ("pair", P0, P0))
THEN = form("twofold", 1, 1, None, ("then", P0, ("let", B0, num(1), P0)))


def doubled(times):
    """Give an expression whose kind has 2 ** (times + 1) - 1 nodes."""
    e = num(1)
    for _ in range(times):
        e = ("let", "t", e, ("pair", name("t"), name("t")))
    return e


class SignatureOf(unittest.TestCase):
    def test_calls(self):
        good = {"book": BOOK58, "e": USE58}
        for function in (signature_of, kind_of, kinding, clash):
            check_calls(self, function, good, CALLS)
        for function in (is_kinding, is_clash):
            check_calls(self, function, {**good, "thing": None}, CALLS)

    def test_example(self):
        self.assertEqual(signature_of(BOOK58, USE58), ((), ("pair", A0, T)))
        self.assertEqual(kind_of(BOOK58, USE58), ("pair", A0, T))
        self.assertIsNone(signature_of(BOOK58, WRONG58))
        self.assertIsNone(kind_of(BOOK58, WRONG58))

    def test_core(self):
        for e, names, kind in (
            (num(1), (), N), (ASK, (), N), (name("x"), (("x", A0),), A0), (("fail", "w"), (), A0),
            (("pair", name("y"), name("x")), (("x", A0), ("y", A1)), ("pair", A1, A0)),
            (("first", name("x")), (("x", ("pair", A0, A1)),), A0), (("second", name("x")), (("x", ("pair", A0, A1)),), A1),
            (("let", "x", name("x"), ("pair", name("x"), name("y"))), (("x", A0), ("y", A1)), ("pair", A0, A1)),
            (("if", name("b"), name("x"), name("y")), (("b", T), ("x", A0), ("y", A0)), A0),
            (("plus", name("x"), name("y")), (("x", N), ("y", N)), N), (("less", name("x"), num(1)), (("x", N),), T),
            (("while", name("b"), name("x")), (("b", T), ("x", A0)), N), (("set", "c", name("x")), (("x", N),), N),
            (("catch", "w", ("show", name("x")), ("then", name("y"), num(1))), (("x", N), ("y", A0)), N),
        ):
            self.assertEqual(signature_of(MIXED, e), (names, kind))
            self.assertEqual(kind_of(MIXED, e), kind)
        for e in (("first", num(1)), ("plus", YES, num(1)), ("if", num(1), num(1), num(1)), ("if", YES, num(1), YES),
                  ("while", num(1), num(1)), ("set", "c", YES), ("catch", "w", num(1), YES), ("less", num(1), NO),
                  ("let", "x", num(1), ("if", name("x"), num(1), num(1))), ("if", YES, name("x"), ("pair", name("x"), num(1))),
                  ("then", ("plus", name("x"), num(1)), ("if", name("x"), num(1), num(1))),
                  ("pair", ("if", YES, name("x"), ("pair", name("y"), ASK)), ("if", YES, name("y"), ("pair", name("x"), ASK)))):
            self.assertIsNone(signature_of(MIXED, e), e)

    def test_uses(self):
        e = ("let", "y", YES, own("twice", ["x"], [ASK, ("pair", name("x"), name("y"))]))
        self.assertEqual(signature_of(MIXED, e), ((), ("pair", N, T)))
        # Copies that do not see the name read the one around, or a free one: a part is looked at seat by seat.
        e = own("odd", ["x"], [name("x")])
        self.assertEqual(signature_of(MIXED, e), ((("x", A0),), N))
        self.assertEqual(signature_of(MIXED, ("let", "x", YES, e)), ((), N))
        self.assertIsNone(signature_of(MIXED, own("odd", ["x"], [("then", ("if", name("x"), ASK, ASK), name("y"))])))
        # A free name has one kind wherever it is.
        e = own("odd", ["x"], [("if", YES, name("x"), name("y"))])
        self.assertEqual(signature_of(MIXED, e), ((("x", N), ("y", N)), N))
        self.assertEqual(signature_of(MIXED, own("double", [], [("first", name("x"))])), ((("x", ("pair", A0, A1)),), ("pair", A0, A0)))
        self.assertEqual(signature_of(MIXED, own("double", [], [("fail", "w")])), ((), ("pair", A0, A1)))

    def test_parts_without_copies(self):
        for part in (("first", num(1)), name("y"), own("broken", [], [num(1)])):
            self.assertEqual(signature_of(MIXED, own("drop", ["x"], [YES, part])), ((), N))
        self.assertIsNone(signature_of(MIXED, own("drop", ["x"], [("first", num(1)), YES])))
        self.assertIsNone(signature_of(MIXED, own("broken", [], [YES])))

    def test_rows(self):
        rows = [(["x"], [num(1)]), (["y"], [("pair", name("x"), YES)])]
        self.assertEqual(kind_of(MIXED, own("seq", [], [("second", name("y"))], rows)), T)
        self.assertIsNone(kind_of(MIXED, own("seq", [], [("second", name("x"))], rows)))

    def test_great_expressions(self):
        for made in (inside, side_by_side):
            told = chain(3, made)
            e = own("fk", ["x"], [own("fj", ["y"], [("plus", name("x"), name("y"))])])
            self.assertEqual(signature_of(told, e), ((), N))
            self.assertEqual(signature_of(told, ("pair", e, name("z"))), ((("z", A0),), ("pair", N, A0)))
            self.assertIsNone(signature_of(told, own("fk", ["x"], [("first", name("x"))])))
        # Many uses within one another, each with two seats.
        e = name("x")
        for k in range(50):
            e = own("twofold", ["x" if k % 2 else "y"], [e])
        self.assertEqual(signature_of(book(THEN), e), ((("x", A0),), N))

    def test_too_many(self):
        for e in (own("gd", [], [num(1)]), own("drop", [], [own("gd", [], [num(1)])]), ("first", own("gd", [], [num(1)])),
                  ("pair", ("first", num(1)), own("gd", [], [num(1)]))):
            for function in (signature_of, kind_of, kinding, clash):
                with self.assertRaises(TooMany) as caught:
                    function(book(*GREAT, form("drop", 0, 1, None, num(1))), e)
                self.assertEqual(caught.exception.most, 100)
        self.assertEqual(signature_of(MIXED, doubled(6))[0], ())
        for function in (signature_of, kind_of):
            with self.assertRaises(TooMany) as caught:
                function(MIXED, doubled(7))
            self.assertEqual(caught.exception.most, 100)
            self.assertIsNotNone(function(MIXED, ("then", doubled(30), num(1))))
        with self.assertRaises(TooMany):
            signature_of(MIXED, ("then", ("if", YES, name("x"), doubled(7)), num(1)))


class Kinding(unittest.TestCase):
    def test_example(self):
        self.assertEqual(kinding(BOOK58, USE58), ("kinding", (), (
            ((), (), ("pair", A0, T)), ((3, 0), (0,), T), ((3, 0), (3,), T),
            ((3, 1), (1,), ("pair", A0, T)), ((3, 1), (2,), A0),
        )))
        self.assertIsNone(kinding(BOOK58, WRONG58))

    def test_kindings(self):
        e = ("let", "x", ("fail", "w"), ("pair", name("y"), name("x")))
        self.assertEqual(kinding(MIXED, e), ("kinding", (("y", A0),), (
            ((), (), ("pair", A0, A1)), ((2,), (), A1), ((3,), (), ("pair", A0, A1)), ((3, 1), (), A0), ((3, 2), (), A1),
        )))
        # Roads of uses within uses; a part without a seat has no labels.
        e = own("twofold", ["x"], [own("twofold", ["y"], [name("x")])])
        self.assertEqual(kinding(book(THEN), e), ("kinding", (("x", A0),), (
            ((), (), N), ((3, 0), (0,), A0), ((3, 0), (1,), N), ((3, 0, 3, 0), (0, 0), A0), ((3, 0, 3, 0), (0, 1), A0),
            ((3, 0, 3, 0), (1, 0), N), ((3, 0, 3, 0), (1, 1), N),
        )))
        e = own("drop", ["x"], [num(1), ("first", num(1))])
        self.assertEqual(kinding(MIXED, e), ("kinding", (), (((), (), N), ((3, 0), (0,), N))))
        e = own("drop", ["x"], [num(1), own("broken", [], [num(1)])])
        self.assertEqual(kinding(MIXED, e), ("kinding", (), (((), (), N), ((3, 0), (0,), N))))

    def test_all_others_come_of_the_weakest(self):
        e = ("let", "x", ("fail", "w"), ("pair", name("y"), name("x")))
        found = kinding(MIXED, e)

        def filled(kind, one, other):
            told = {0: one, 1: other}
            return ("pair", filled(kind[1], one, other), filled(kind[2], one, other)) if kind[0] == "pair" else told.get(kind[-1], kind)

        def other(one, another, names=None):
            labels = tuple((path, road, filled(kind, one, another)) for path, road, kind in found[2])
            told = tuple((x, filled(kind, one, another)) for x, kind in found[1])
            return ("kinding", told if names is None else names, labels)

        for one, another in ((A0, A1), (A1, A0), (A2, A2), (N, ("pair", T, A0))):
            self.assertIs(is_kinding(MIXED, e, other(one, another)), True)
        self.assertIs(is_kinding(MIXED, e, other(N, T, (("x", T), ("y", N), ("z", A0)))), True)
        for names in ((), (("x", N),), (("y", T),), (("y", A0),)):
            self.assertIs(is_kinding(MIXED, e, other(N, T, names)), False)

    def test_no_kindings(self):
        found = kinding(BOOK58, USE58)
        labels = found[2]
        self.assertIs(is_kinding(BOOK58, USE58, found), True)
        wrong = [("kinding", (), labels[:-1]), ("kinding", (), labels + labels[-1:]), ("kinding", (), labels[::-1]),
                 ("kinding", [], labels), ("kinding", (), list(labels)), ["kinding", (), labels], ("kinding", labels),
                 ("kinding", (), labels, ()), ("kinding", (("x", 1),), labels), ("kinding", (("y", N), ("x", N)), labels),
                 ("labels", (), labels), ("kinding", (), (((), (), 1),) + labels[1:]),
                 ("kinding", (), (((), []) + labels[0][2:],) + labels[1:]), ("kinding", (), ([(), (), labels[0][2]],) + labels[1:]),
                 ("kinding", (), labels[:1] + (((3, False), (0,), T),) + labels[2:]),
                 ("kinding", (), labels[:1] + (((3, 0), (False,), T),) + labels[2:]),
                 ("kinding", (), labels[:3] + (((3, 1), (True,), labels[3][2]),) + labels[4:])]
        for at, kind in ((0, ("pair", N, N)), (0, A0), (1, A0), (1, N), (2, N), (3, A0), (4, N), (4, A1)):
            wrong.append(("kinding", (), labels[:at] + (labels[at][:2] + (kind,),) + labels[at + 1:]))
        for thing in wrong + ODDITIES:
            self.assertIs(is_kinding(BOOK58, USE58, thing), False, thing)
        self.assertIs(is_kinding(BOOK58, USE58, ("kinding", (("x", N),), labels)), True)
        for thing in (("kinding", (), (((), (), T, 1),)), ("kinding", (), (((), ()),)), ("kinding", (), (1,))):
            self.assertIs(is_kinding(MIXED, YES, thing), False)
        self.assertIs(is_kinding(MIXED, own("broken", [], [YES]), ("kinding", (), (((), (), N),))), False)
        # The name is a number at the one seat, a truth at the other one.
        for kind in (N, T, A0):
            labels = (((), (), ("pair", kind, T)), ((3, 0), (0,), T), ((3, 0), (3,), T), ((3, 1), (1,), ("pair", kind, T)), ((3, 1), (2,), kind))
            self.assertIs(is_kinding(BOOK58, WRONG58, ("kinding", (), labels)), False)

    def test_what_no_label_tells(self):
        # The name is not read, so its kind is told by no label; yet some filling of the scheme must be there.
        lets = form("lets", 1, 2, None, ("let", B0, P0, ("pair", P1, ("if", YES, name(B0), num(1)))))
        e = own("lets", ["x"], [ASK, YES])
        found = kinding(book(lets), e)
        self.assertEqual(found, ("kinding", (), (((), (), ("pair", T, N)), ((3, 0), (0,), N), ((3, 1), (1,), T))))
        self.assertIs(is_kinding(book(lets), e, found), True)

    def test_too_many(self):
        # A node for the outermost use, 2 and 4 for those within, and 8 for each node of the part.
        great = own("double", [], [own("double", [], [own("double", [], [sized(124)])])])
        self.assertEqual(len(kinding(book(DOUBLE), great)[2]), 7 + 8 * 124)
        self.assertIsNotNone(kinding(book(DOUBLE), ("show", great)))
        for function in (kinding, clash, lambda told, e: is_kinding(told, e, 1), lambda told, e: is_clash(told, e, 1)):
            with self.assertRaises(TooMany) as caught:
                function(book(DOUBLE), ("show", ("show", great)))
            self.assertEqual(caught.exception.most, 1000)
            # Schemes that are refused come first.
            with self.assertRaises(TooMany) as caught:
                function(book(DOUBLE, *GREAT), ("pair", own("gd", [], [num(1)]), ("show", ("show", great))))
            self.assertEqual(caught.exception.most, 100)

    def test_too_great_kinds(self):
        e = ("then", doubled(7), num(1))
        with self.assertRaises(TooMany) as caught:
            kinding(MIXED, e)
        self.assertEqual(caught.exception.most, 100)
        # What says yes or no does not raise this.
        self.assertIsNone(clash(MIXED, e))
        self.assertIs(is_clash(MIXED, e, ((),)), False)
        self.assertIs(is_kinding(MIXED, e, ("kinding", (), ())), False)
        # Where there is no kinding no kind is too great.
        self.assertIsNone(kinding(MIXED, ("if", doubled(7), num(1), num(1))))
        labels = []
        kind = N
        for depth in range(7):
            inner = kind
            kind = ("pair", kind, kind)
            at = (1,) + (2,) * (6 - depth)
            labels += [(at, (), kind), (at + (2,), (), inner), (at + (3,), (), kind), (at + (3, 1), (), inner), (at + (3, 2), (), inner)]
        labels = sorted(set(labels + [((), (), N), ((2,), (), N), ((1, 2, 2, 2, 2, 2, 2, 2), (), N)]))
        self.assertIs(is_kinding(MIXED, e, ("kinding", (), tuple(labels))), True)


class Clash(unittest.TestCase):
    def test_example(self):
        self.assertIsNone(clash(BOOK58, USE58))
        self.assertEqual(clash(BOOK58, WRONG58), ((), (3, 1)))
        self.assertIs(is_clash(BOOK58, WRONG58, ((), (3, 1))), True)

    def check(self, told, e, lots):
        """Hold clash against all clashes there are."""
        self.assertIn(clash(told, e), lots)
        for lot in lots:
            self.assertIs(is_clash(told, e, lot), True)

    def test_clashes(self):
        self.check(MIXED, ("first", num(1)), [((), (1,))])
        self.check(MIXED, ("if", YES, num(1), NO), [((), (2,), (3,))])
        self.check(MIXED, ("pair", ("first", num(1)), ("second", YES)), [((1,), (1, 1)), ((2,), (2, 1))])
        self.check(MIXED, ("let", "x", num(1), ("if", name("x"), ASK, ASK)), [((), (2,), (3,), (3, 1))])
        self.check(MIXED, ("pair", ("plus", name("x"), ASK), ("if", name("x"), ASK, ASK)), [((1,), (1, 1), (2,), (2, 1))])
        self.check(MIXED, ("if", YES, name("x"), ("pair", name("x"), ASK)), [((), (2,), (3,), (3, 1))])
        # A use of a form without a scheme clashes by itself.
        self.check(MIXED, own("broken", [], [("first", num(1))]), [((),)])
        self.check(MIXED, own("drop", ["x"], [own("broken", [], [ASK]), ASK]), [((3, 0),)])
        # Two seats of one part: the free name has one kind at both.
        e = own("twofold", ["x"], [("then", ("if", name("x"), ASK, ASK), ASK)])
        self.check(book(THEN), e, [((), (3, 0, 1), (3, 0, 1, 1))])

    def test_what_is_freed(self):
        # The let is freed: its name may have any kind, one for each road.
        e = ("let", "x", num(1), ("pair", ("first", name("x")), ("if", name("x"), ASK, ASK)))
        found = clash(MIXED, e)
        self.assertIn(found, [((), (2,), (3, 1), (3, 1, 1)), ((), (2,), (3, 2), (3, 2, 1)), ((3, 1), (3, 1, 1), (3, 2), (3, 2, 1))])
        self.assertIs(is_clash(MIXED, e, ((3, 1), (3, 1, 1), (3, 2), (3, 2, 1))), True)
        # The use is freed: its name has any kind at each seat, a free name one everywhere.
        both = ("pair", ("if", name("x"), ASK, ASK), ("if", name("y"), ASK, ASK))
        e = own("twofold", ["x"], [("pair", both, ("first", name("y")))])
        self.assertIs(is_clash(book(THEN), e, ((3, 0, 1, 2), (3, 0, 1, 2, 1), (3, 0, 2), (3, 0, 2, 1))), True)
        self.assertIs(is_clash(book(THEN), e, ((), (3, 0, 1, 1), (3, 0, 1, 1, 1))), True)

    def test_no_clashes(self):
        e = ("if", YES, num(1), NO)
        right = ((), (2,), (3,))
        self.assertIs(is_clash(MIXED, e, right), True)
        for thing in ODDITIES + [
            ((), (1,), (2,), (3,)), ((), (2,)), ((2,), (3,)), ((), (3,), (2,)), list(right), ([], (2,), (3,)), ((), (2,), (3,), (4,)),
            ((), (2,), (3,), (3,)), ((), (2,), (3, 1)), ((), (2,), (3,), 4), ((False,), (2,), (3,)),
        ]:
            self.assertIs(is_clash(MIXED, e, thing), False, thing)
        self.assertIs(is_clash(MIXED, ("first", num(1)), ((), (True,))), False)
        self.assertIs(is_clash(MIXED, num(1), ()), False)
        self.assertIs(is_clash(MIXED, num(1), ((),)), False)

    def test_great_expressions(self):
        told = chain(3, inside)
        e = own("fk", ["x"], [own("fj", ["y"], [("pair", name("x"), ("if", name("y"), ASK, ASK))])])
        self.assertEqual(clash(told, e), ((3, 0), (3, 0, 3, 0, 2), (3, 0, 3, 0, 2, 1)))
        wide = ("plus", num(1), sized(380))
        self.assertEqual(clash(book(), ("if", wide, num(1), num(1))), ((), (1,)))


if __name__ == "__main__":
    unittest.main()
