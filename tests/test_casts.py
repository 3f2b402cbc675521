"""Point 51 where seats are too many to be listed: uses within uses, each with many seats."""

import unittest
from unittest.mock import patch

import naivekinds

from formrules.books import is_book
from formrules.clashes import clash, is_clash
from formrules.errors import TooMany
from formrules.kindings import is_kinding, kinding
from formrules.kinds import kind_of, signature_of
from formrules.schemes import scheme

from fixtures import ASK, B0, B1, H0, NO, P0, P1, R0, YES, book, form, name, num, own
from small import Maker

N, T = ("number",), ("truth",)
A0, A1, A2 = ("any", 0), ("any", 1), ("any", 2)
HEADS = ["let", "let", "then", "then", "pair", "pair", "if", "show", "first", "catch"]


def tree(leaves):
    """Give pairs with these as ends."""
    if len(leaves) == 1:
        return leaves[0]
    half = len(leaves) // 2
    return ("pair", tree(leaves[:half]), tree(leaves[half:]))


def nested(times, around, e=P0):
    """Put something around e, so many times; around is told how often it was done before."""
    for at in range(times):
        e = around(e, at)
    return e


def hidden(e):
    return ("then", e, num(0))


THIRTY = form("f", 0, 1, None, tree([P0] * 30))
TIMES = (1, 2, 3, 5, 20, 50)


class ManySeats(unittest.TestCase):
    def check(self, told, wanted, word="g", many=0):
        """Hold a scheme against what is wanted, None for too many."""
        if wanted == "too many":
            with self.assertRaises(TooMany) as caught:
                scheme(told, word, many)
            self.assertEqual(caught.exception.most, 100)
        else:
            self.assertEqual(scheme(told, word, many), wanted)

    def test_uses_within_uses(self):
        for times in TIMES:
            e = nested(times, lambda e, _: own("f", [], [e]))
            self.check(book(THIRTY, form("g", 0, 1, None, hidden(e))), ("scheme", ((P0, (), A0),), N))
            self.check(book(THIRTY, form("g", 0, 2, None, ("then", e, P1))), ("scheme", ((P0, (), A0), (P1, (), A1)), A1))
            if times > 1:
                self.check(book(THIRTY, form("g", 0, 1, None, e)), "too many")
                self.check(book(THIRTY, form("g", 0, 1, None, ("first", e))), "too many")
                self.check(book(THIRTY, form("g", 0, 1, None, ("pair", ("then", e, P0), e))), "too many")
            # What is wrong is told, however many seats there are.
            self.check(book(THIRTY, form("g", 0, 1, None, hidden(("if", e, num(1), num(1))))), None)
            self.check(book(THIRTY, form("g", 0, 1, None, ("pair", e, ("first", num(1))))), None)
            wrong = nested(times, lambda e, _: own("f", [], [e]), ("first", num(1)))
            self.check(book(THIRTY, form("g", 0, 1, None, hidden(wrong))), None)

    def test_branches(self):
        for times in (1, 2, 3, 5, 10):
            one = nested(times, lambda e, _: own("f", [], [e]))
            other = nested(times, lambda e, _: own("f", [], [e]), P1)
            last = nested(times, lambda e, _: own("f", [], [e]), num(1))
            for heads in (("if", YES), ("catch", "w")):
                told = book(THIRTY, form("g", 0, 2, None, hidden(heads + (one, one))))
                self.check(told, ("scheme", ((P0, (), A0),), N))
                told = book(THIRTY, form("g", 0, 2, None, hidden(heads + (one, last))))
                self.check(told, ("scheme", ((P0, (), N),), N))
                told = book(THIRTY, form("g", 0, 2, None, hidden(heads + (heads + (last, one), other))))
                self.check(told, ("scheme", ((P0, (), N), (P1, (), N)), N))
                # Each unknown stands at a seat of both places: so none goes away.
                if times > 1:
                    self.check(book(THIRTY, form("g", 0, 2, None, hidden(heads + (one, other)))), "too many")
        told = scheme(book(THIRTY, form("g", 0, 2, None, hidden(("if", YES, own("f", [], [P0]), own("f", [], [P1]))))), "g", 0)
        self.assertEqual(len(told[1]), 60)

    def test_names(self):
        lets = form("f", 1, 1, None, tree([("let", B0, num(1), P0)] * 30))
        mixed = form("f", 1, 1, None, tree([("let", B0, num(1), P0), ("let", B0, YES, P0)] * 15))
        binds = [("bind", j) for j in range(3)]
        for times in TIMES:
            e = nested(times, lambda e, _: own("f", [B0], [e]))
            self.check(book(lets, form("g", 1, 1, None, hidden(e))), ("scheme", ((P0, ((B0, N),), A0),), N))
            wanted = ("scheme", ((P0, ((B0, N),), A0), (P0, ((B0, T),), A1)), N)
            self.check(book(mixed, form("g", 1, 1, None, hidden(e))), wanted)
            e = nested(times, lambda e, at: own("f", [binds[at % 3]], [e]))
            seen = tuple((place, N) for place in binds[:min(times, 3)])
            self.check(book(lets, form("g", 3, 1, None, hidden(e))), ("scheme", ((P0, seen, A0),), N))
            e = nested(times, lambda e, _: own("f", ["t"], [("pair", name("t"), e)]))
            self.check(book(lets, form("g", 0, 1, None, hidden(e))), ("scheme", ((P0, (), A0),), N))
            self.check(book(mixed, form("g", 0, 1, None, hidden(e))), ("scheme", ((P0, (), A0),), N))
            e = nested(times, lambda e, _: own("f", ["t"], [("if", name("t"), e, e)]))
            if times < 4:
                self.check(book(lets, form("g", 0, 1, None, hidden(e))), None)

    def test_names_of_unknown_kinds(self):
        bound = form("f", 1, 2, None, ("let", B0, P1, tree([P0] * 30)))
        for times in TIMES:
            # Each name has the kind of what stands at a part place: the two are tied.
            e = nested(times, lambda e, _: own("f", [B0], [e, P1]))
            told = book(bound, form("g", 1, 2, None, hidden(e)))
            if times < 3:
                self.assertEqual(len(scheme(told, "g", 0)[1]), 2 if times == 1 else 61)
            else:
                self.check(told, "too many")
            e = nested(times, lambda e, _: own("f", ["t"], [("then", name("t"), e), P1]))
            wanted = ("scheme", ((P1, (), A0), (P0, (), A1)), N)
            self.check(book(bound, form("g", 0, 2, None, hidden(e))), wanted)
            e = nested(times, lambda e, _: own("f", [B0], [e, num(1)]))
            self.check(book(bound, form("g", 1, 1, None, hidden(e))), ("scheme", ((P0, ((B0, N),), A0),), N))

    def test_forms_in_turn(self):
        other = form("h", 0, 2, None, ("pair", ("if", P0, P1, P1), tree([P1] * 20)))
        third = form("k", 1, 1, None, ("let", B0, YES, tree([P0] * 9)))
        for times in (1, 2, 3, 15):
            e = nested(times, lambda e, _: own("f", [], [own("h", [], [YES, e])]))
            self.check(book(THIRTY, other, form("g", 0, 1, None, hidden(e))), ("scheme", ((P0, (), A0),), N))
            self.check(book(THIRTY, other, form("g", 0, 1, None, e)), "too many")
            e = nested(times, lambda e, _: own("h", [], [P1, own("f", [], [e])]))
            told = book(THIRTY, other, form("g", 0, 2, None, hidden(e)))
            self.check(told, ("scheme", ((P1, (), T), (P0, (), A0)), N))
            e = nested(times, lambda e, _: own("f", [], [own("k", [B0], [e])]))
            told = book(THIRTY, third, form("g", 1, 1, None, hidden(e)))
            self.check(told, ("scheme", ((P0, ((B0, T),), A0),), N))

    def test_rows_and_rest(self):
        rows = form("f", 0, 1, (1, 1), tree([P0] * 30), ("let", R0, H0, ("pair", ("rest",), tree([H0] * 10))))
        here = [("here", k, 0) for k in range(8)]
        for times in (1, 2, 3, 6):
            e = nested(times, lambda e, _: own("f", [], [e], [(["t"], [H0]), (["u"], [("rest",)])]), num(1))
            told = book(rows, form("g", 0, 1, (0, 1), P0, hidden(e)))
            for many in (1, 2, 3):
                seats = [(place, (), ("any", i)) for i, place in enumerate(here[:many])] + [(P0, (), ("any", many))]
                self.check(told, ("scheme", tuple(seats), N), many=many)
        for times in TIMES:
            e = nested(times, lambda e, _: own("f", [], [e]), ("pair", H0, ("rest",)))
            told = book(THIRTY, form("g", 0, 1, (0, 1), P0, hidden(e)))
            for many in (1, 2, 8):
                seats = [(place, (), ("any", i)) for i, place in enumerate(here[:many])] + [(P0, (), ("any", many))]
                self.check(told, ("scheme", tuple(seats), N), many=many)
            e = nested(times, lambda e, _: own("f", [], [e]), ("let", R0, H0, ("rest",)))
            told = book(THIRTY, form("g", 0, 1, (1, 1), P0, hidden(e)))
            self.check(told, "too many" if times > 1 else scheme(told, "g", 1), many=1)
            self.assertEqual(kind_of(told, own("g", [], [ASK], [])), N)


class OtherFunctions(unittest.TestCase):
    def test_those_that_need_schemes(self):
        for times in TIMES:
            e = nested(times, lambda e, _: own("f", [], [e]))
            told = book(THIRTY, form("g", 0, 1, None, hidden(e)))
            use = own("g", [], [ASK])
            self.assertEqual(signature_of(told, use), ((), N))
            self.assertEqual(kind_of(told, use), N)
            found = kinding(told, use)
            self.assertEqual(found, ("kinding", (), (((), (), N), ((3, 0), (0,), N))))
            self.assertIs(is_kinding(told, use, found), True)
            self.assertIsNone(clash(told, use))
            wrong = ("first", use)
            self.assertEqual(clash(told, wrong), ((), (1,)))
            self.assertIs(is_clash(told, wrong, ((), (1,))), True)

    def test_signatures(self):
        for times in TIMES:
            for leaf, wanted in ((ASK, ()), (("fail", "w"), ()), (name("z"), (("z", A0),)), (("first", name("z")), (("z", ("pair", A0, A1)),))):
                e = nested(times, lambda e, _: own("f", [], [e]), leaf)
                self.assertEqual(signature_of(book(THIRTY), hidden(e)), (wanted, N))
                if times > 1:
                    for one in (e, ("first", e)):
                        with self.assertRaises(TooMany) as caught:
                            signature_of(book(THIRTY), one)
                        self.assertEqual(caught.exception.most, 100)
                self.assertIsNone(signature_of(book(THIRTY), hidden(("less", e, num(1)))))


class Spread(unittest.TestCase):
    """Seats that are spread out only where they must be, held against all seats listed."""

    def nest(self, maker, told, e):
        used = maker.pick(told[2])
        many = maker.random.randint(0, 2) if used[4] else 0
        pool = [B0, B1, "t", "x", "u", "v", "p"]
        maker.random.shuffle(pool)

        def part():
            roll = maker.random.random()
            if roll < 0.5:
                return e
            return maker.pick([P0, P1]) if roll < 0.8 else maker.pick([num(1), ASK, ("fail", "w"), ("pair", P0, ("fail", "w"))])

        names = [pool.pop() for _ in range(used[2])]
        parts = [part() for _ in range(used[3])]
        rows = [([pool.pop() for _ in range(used[4][0])], [part() for _ in range(used[4][1])]) for _ in range(many)]
        return own(used[1], names, parts, rows)

    def template(self, maker, told):
        """Make a template of uses within uses, perhaps two that have one kind."""
        leaf = maker.pick([P0, P1, ("pair", P0, P1)])
        one = nested(maker.random.randint(1, 3), lambda e, _: self.nest(maker, told, e), leaf)
        other = nested(maker.random.randint(1, 2), lambda e, _: self.nest(maker, told, e), leaf)
        e = maker.pick([one, one, ("if", YES, one, one), ("catch", "w", one, other), ("let", "z", one, ("if", NO, name("z"), other))])
        return maker.pick([e, hidden(e), ("then", e, P0), ("let", B0, P1, ("then", e, name(B0))), ("then", ("first", e), P1)])

    def test_what_is_known_of_copies_within_copies(self):
        """What a part's own uses have found out of one another holds wherever the part stands once more."""
        forma, formb = form("forma", 0, 1, None, ("first", P0)), form("formb", 0, 2, None, ("let", "t", own("forma", [], [P1]), P0))
        inner = own("forma", [], [own("formb", [], [("pair", P0, P1), ("pair", P0, P1)])])
        template = ("then", ("let", "z", own("formb", [], [inner, ("pair", P0, ("fail", "w"))]), ("if", NO, name("z"), own("forma", [], [P0]))), P0)
        # The kind of z is that of the part of formb, which is a half of what the use within it has.
        told = book(forma, formb, form("g", 0, 2, None, template))
        due = ("scheme", (
            (P1, (), A0), (P0, (), A1), (P0, (), ("pair", A1, ("any", 2))), (P0, (), ("any", 3))), ("any", 3))
        self.assertEqual(naivekinds.Schemes(told).of("g", 0), due)
        for few in (2000, -1):
            with patch("formrules.blocks.FEW", few):
                self.assertEqual(scheme(told, "g", 0), due)
        # Two copies of one part are not just alike where one of them knows more.
        forma = form("forma", 1, 2, None, ("pair", ("first", P1), ("pair", ("if", ("then", NO, P0), ("first", P0), ("then", P1, ("get", "c"))), ASK)))
        formb = form("formb", 0, 2, (0, 2), ("first", P0), ("first", ("let", "t", own("forma", ["q"], [P1, ("rest",)]), ("first", P0))))
        formc = form("formc", 1, 3, None, ("then", P1, ("show", P1)))
        both = own("formc", ["p"], [("pair", P0, P1), ("pair", P0, P1), P1])
        inner = own("formb", [], [both, P1], [((), [both, both])])
        told = book(forma, formb, formc, form("g", 2, 2, None, ("then", own("forma", ["u"], [inner, inner]), P0)), cells=("c",))
        due = ("scheme", (
            (P1, (), T), (P1, (), ("pair", N, A0)), (P0, (), ("pair", T, A1)), (P0, (), ("pair", ("pair", N, A2), ("any", 3))), (P0, (), ("any", 4))), ("any", 4))
        self.assertEqual(naivekinds.Schemes(told).of("g", 0), due)
        for few in (2000, -1):
            with patch("formrules.blocks.FEW", few):
                self.assertEqual(scheme(told, "g", 0), due)

    def test_small_books(self):
        told = {"scheme": 0, None: 0, "more": 0}
        for seed in range(250):
            maker = Maker(seed, heads=HEADS)
            ahead = maker.book(maker.random.randint(1, 3))
            whole = ("book", ahead[1], ahead[2] + (form("g", 2, 2, None, self.template(maker, ahead)),))
            if not is_book(whole):
                continue
            try:
                wanted = naivekinds.Schemes(whole).of("g", 0)
            except (naivekinds.Refused, RecursionError):
                continue
            with patch("formrules.blocks.FEW", -1):
                self.assertEqual(scheme(whole, "g", 0), wanted, whole)
            self.assertEqual(scheme(whole, "g", 0), wanted, whole)
            told[wanted and wanted[0]] += 1
            told["more"] += wanted is not None and len(wanted[1]) > 2
        self.assertGreater(min(told.values()), 10)


if __name__ == "__main__":
    unittest.main()
