"""Exchanging forms under their greatest lots, in programs and in books."""

import unittest

from formrules.books import is_book
from formrules.closed import is_closed
from formrules.errors import BadBook, BadExpression, BadForm, BadPath, OtherPlaces, TooMany
from formrules.exchanging import exchanged_at, exchanged_book, may_exchange
from formrules.freedoms import freedoms
from formrules.kinds import kind_of
from formrules.least import behaviour
from formrules.plains import common, plain
from formrules.running import run
from formrules.weakest import greatest_lots

from calls import check_calls
from fixtures import ASK, B0, H0, MIXED, NO, ODDITIES, P0, P1, P2, R0, YES, book, form, name, num, own
from kindly import Kindly
from test_freedoms import BOOK77, alike_but_for_some
from test_opened import GREAT
from test_surroundings import check_sides

SET = ("set", "c", ASK)
SHOWN = ("show", ASK)


def once(part):
    return own("once", [], [part])


class MayExchange(unittest.TestCase):
    def test_errors(self):
        told = check_sides(self, may_exchange, (num(1),))
        self.assertEqual(may_exchange(book=told, name="rows", other="others", many=1, e=num(1)), ())
        # No program that has a kind: behind NoPlain, ahead of TooMany.
        for many in (0, 4):
            for e in ODDITIES + [name("x"), ("pair", num(1), name("x")), ("first", num(1)), ("if", num(1), num(1), num(1)), own("rows", [], [], [])]:
                if e != ASK:
                    with self.assertRaises(BadExpression):
                        may_exchange(told, "rows", "others", many, e)
                    with self.assertRaises(BadExpression):
                        may_exchange(told, "rows", "greats", many, e)
        # TooMany(3) comes ahead of TooMany(100) for the program, and this one ahead of TooMany(4).
        rows, others = form("rows", 0, 3, (0, 1), P0, ("then", H0, ("rest",))), form("others", 0, 3, (0, 1), P0, ("then", H0, ("show", ("rest",))))
        told = book(rows, others, GREAT)
        great = own("great", [], [num(1)])
        for many, e, most in ((4, great, 3), (2, great, 100), (1, great, 100), (2, num(1), 4), (3, num(1), 4), (4, num(1), 3)):
            with self.assertRaises(TooMany) as caught:
                may_exchange(told, "rows", "others", many, e)
            self.assertEqual(caught.exception.most, most)

    def test_example(self):
        """[77], word for word."""
        e = ("then", once(SHOWN), once(SET))
        self.assertEqual(may_exchange(BOOK77, "once", "kept", 0, e), ((1,),))
        self.assertEqual(may_exchange(BOOK77, "once", "again", 0, e), ((1,), (2,)))
        self.assertEqual(may_exchange(BOOK77, "once", "twice", 0, e), ())

    def test_any_place(self):
        e = ("let", "x", num(1), own("again", [], [("pair", once(name("x")), own("twice", [], [once(("fail", "w"))]))]))
        self.assertEqual(may_exchange(BOOK77, "once", "twice", 0, e), ((3, 3, 0, 1),))
        self.assertEqual(may_exchange(BOOK77, "once", "again", 0, e), ((3, 3, 0, 1),))
        self.assertEqual(may_exchange(BOOK77, "once", "kept", 0, e), ((3, 3, 0, 1), (3, 3, 0, 2, 3, 0)))
        self.assertEqual(may_exchange(BOOK77, "again", "kept", 0, e), ())
        self.assertEqual(may_exchange(BOOK77, "once", "once", 0, e), ((3, 3, 0, 1), (3, 3, 0, 2, 3, 0)))
        # A use within a use, each by itself.
        e = once(once(once(name("x"))))
        self.assertEqual(may_exchange(BOOK77, "once", "twice", 0, ("let", "x", YES, e)), ((3, 3, 0, 3, 0),))

    def test_names_of_the_use(self):
        # A name of the use is not settled.
        told = book(form("one", 1, 1, None, ("let", B0, ASK, P0)), form("other", 1, 1, None, ("let", B0, ASK, ("then", P0, P0))))
        self.assertEqual(greatest_lots(told, "one", "other", 0), ((),))
        e = ("let", "x", num(1), ("pair", own("one", ["x"], [name("x")]), own("one", ["y"], [name("x")])))
        self.assertEqual(may_exchange(told, "one", "other", 0, e), ((3, 2),))

    def test_rows(self):
        rows, others = form("rows", 0, 1, (0, 1), P0, ("then", H0, ("rest",))), form("others", 0, 1, (0, 1), ("then", P0, P0), ("then", H0, ("rest",)))
        told = book(rows, others)
        one, none = own("rows", [], [num(1)], [((), [ASK])]), own("rows", [], [num(1)])
        e = ("then", one, ("then", none, own("rows", [], [ASK], [((), [num(2)])])))
        self.assertEqual(may_exchange(told, "rows", "others", 1, e), ((1,),))
        self.assertEqual(may_exchange(told, "rows", "others", 0, e), ((2, 1),))
        self.assertEqual(may_exchange(told, "rows", "others", 2, e), ())

    def test_kinds_and_closedness(self):
        """The uses behind whose exchange e is still closed and has a kind."""
        told = book(
            form("one", 1, 2, None, ("then", ("let", B0, num(1), P0), num(0))), form("other", 1, 2, None, ("then", P0, num(0))),
            form("third", 1, 2, None, ("then", ("let", B0, num(1), P0), ("then", P1, num(0)))), form("fourth", 1, 2, None, ("then", ("let", B0, YES, P0), num(0))))
        self.assertEqual(greatest_lots(told, "one", "third", 0), (((P0, "varies"), (P0, "fails"), (P0, "sets")),))
        # What the one form drops may have any kind, and may read what is not let.
        for part, right in ((num(1), True), (("first", num(1)), False), (name("z"), False), (("first", ("pair", num(1), YES)), True)):
            e = ("pair", num(1), own("one", ["x"], [ASK, part]))
            self.assertIsNotNone(kind_of(told, e))
            self.assertEqual(may_exchange(told, "one", "third", 0, e), ((2,),) if right else ())

    def test_small_books(self):
        """What is told shows the same behind the exchange, whatever stands around."""
        tried = 0
        for seed in range(200):
            maker = Kindly(seed, cells=("c",), rows=seed % 3 == 0)
            told = alike_but_for_some(maker)
            one, other = [made[1] for made in told[2]]
            e = around(maker, told)
            if e is None or kind_of(told, e) is None or not is_closed(told, e):
                continue
            many = maker.random.randint(0, 1) if told[2][0][4] else 0
            for path in may_exchange(told, one, other, many, e):
                tried += 1
                use = e
                for at in path:
                    use = use[at]
                self.assertTrue(any(set(freedoms(told, use)) <= set(lot) for lot in greatest_lots(told, one, other, many)))
                made = exchanged_at(told, one, other, e, path)
                for _ in range(4):
                    inputs = [maker.random.randint(0, 7) for _ in range(12)]
                    self.assertEqual(run(told, e, inputs, 60), run(told, made, inputs, 60))
        self.assertGreater(tried, 25)


def around(maker, told):
    """Make a closed program of a book, None if it becomes none."""
    maker.told, maker.binding, maker.leaves = told, {"r": None, "s": None}, {}
    kinds = [maker.forms[made[1]][5] for made in told[2]]
    return maker.node(maker.pick(kinds), 3, {})


class ExchangedAt(unittest.TestCase):
    def test_calls(self):
        e = ("then", once(once(num(1))), own("again", [], [once(ASK)]))
        good = {"book": BOOK77, "name": "once", "other": "kept", "e": e, "path": (1,)}
        bad = [("book", None, BadBook)] + [(at, one, BadForm) for at in ("name", "other") for one in ("none", None, 1)]
        bad += [("e", one, BadExpression) for one in ODDITIES if one != ASK]
        bad += [("path", one, BadPath) for one in (None, 1, [1], (), (2,), (1, 3), (True,), (1, 3, False), (-2,), (9,), ("1",), (1, 3, 0, 3, 0), ((1,),))]
        check_calls(self, exchanged_at, good, bad)
        with self.assertRaises(OtherPlaces):
            exchanged_at(MIXED, "odd", "twice", None, None)
        with self.assertRaises(BadPath):
            exchanged_at(BOOK77, "once", "kept", num(1), ())

    def test_there_alone(self):
        e = ("then", once(once(num(1))), own("again", [], [once(ASK)]))
        kept = lambda part: own("kept", [], [part])
        for path, found in (
            ((1,), ("then", kept(once(num(1))), e[2])), ((1, 3, 0), ("then", once(kept(num(1))), e[2])), ((2, 3, 0), ("then", e[1], own("again", [], [kept(ASK)]))),
        ):
            self.assertEqual(exchanged_at(BOOK77, "once", "kept", e, path), found)
        self.assertEqual(exchanged_at(BOOK77, "once", "kept", once(ASK), ()), kept(ASK))
        rows = own("seq", [], [num(1)], [("x", [own("seq", [], [num(2)])])])
        told = book(*MIXED[2], form("two", 0, 1, (1, 1), P0, H0))
        self.assertEqual(exchanged_at(told, "seq", "two", rows, (4, 0, 1, 0)), own("seq", [], [num(1)], [("x", [own("two", [], [num(2)])])]))
        # It need not be closed, nor have a kind.
        self.assertEqual(exchanged_at(BOOK77, "once", "twice", ("pair", once(name("x")), num(1)), (1,)), ("pair", own("twice", [], [name("x")]), num(1)))


class ExchangedBook(unittest.TestCase):
    def test_calls(self):
        good = {"book": BOOK77, "name": "once", "other": "kept"}
        check_calls(self, exchanged_book, good, [("book", None, BadBook)] + [(at, one, BadForm) for at in ("name", "other") for one in ("none", None, 1)])
        with self.assertRaises(OtherPlaces):
            exchanged_book(MIXED, "odd", "twice")

    def check(self, template, found, pair=("once", "twice"), many=(0, 2, None)):
        told = book(*BOOK77[2], form("made", *many, template), cells=("c",))
        made = exchanged_book(told, *pair)
        self.assertEqual(made[2][:4], told[2][:4])
        self.assertEqual(made[2][4][5][0], found)
        self.assertIs(is_book(made), True)

    def test_parts_of_templates(self):
        twice = lambda part: own("twice", [], [part])
        self.check(once(num(1)), twice(num(1)))
        self.check(once(("pair", num(1), YES)), twice(("pair", num(1), YES)))
        self.check(("let", "t", ASK, once(name("t"))), ("let", "t", ASK, twice(name("t"))))
        self.check(("let", B0, ASK, once(("first", name(B0)))), ("let", B0, ASK, twice(("first", name(B0)))), many=(1, 1, None))
        self.check(once(ASK), once(ASK))
        # A part with a place varies, fails and sets, whether or not it has a copy.
        self.check(once(P0), once(P0))
        self.check(once(("pair", P0, num(1))), once(("pair", P0, num(1))))
        drop = own("drop", ["x"], [num(1), P0])
        told = book(MIXED[2][3], *BOOK77[2], form("made", 0, 1, None, once(("pair", num(1), drop))), cells=("c",))
        self.assertEqual(exchanged_book(told, "once", "kept"), told)
        self.assertNotEqual(exchanged_book(book(MIXED[2][3], *BOOK77[2], form("made", 0, 1, None, once(("pair", num(1), own("drop", ["x"], [num(1), ASK])))), cells=("c",)), "once", "kept"), told)
        # Each use by itself, nodes ahead of their parts.
        self.check(("then", once(once(num(1))), ("then", once(P0), once(num(2)))), ("then", once(twice(num(1))), ("then", once(P0), twice(num(2)))))
        self.check(once(own("twice", [], [once(num(3))])), once(own("twice", [], [twice(num(3))])))

    def test_names_that_are_given(self):
        one, other = form("one", 1, 1, None, ("let", B0, ASK, P0)), form("other", 1, 1, None, ("let", B0, ASK, ("then", P0, P0)))
        template = ("let", B0, ASK, ("let", "t", ASK, ("pair", own("one", ["u"], [name("t")]), ("pair", own("one", ["t"], [name("t")]), own("one", [B0], [name(B0)])))))
        told = book(one, other, form("made", 1, 0, None, template))
        found = exchanged_book(told, "one", "other")[2][2][5][0]
        self.assertEqual(found, ("let", B0, ASK, ("let", "t", ASK, ("pair", own("other", ["u"], [name("t")]), template[3][3][2]))))

    def test_forms_behind_both(self):
        made = form("made", 0, 0, None, once(num(1)))
        for order, at in (((0, 1, made), 2), ((0, made, 1), None), ((1, 0, made), 2)):
            told = book(*[BOOK77[2][one] if one in (0, 1) else one for one in order], cells=("c",))
            found = exchanged_book(told, "once", "twice")
            if at is None:
                self.assertEqual(found, told)
            else:
                self.assertEqual(found[2][at][5][0], own("twice", [], [num(1)]))

    def test_rows_and_places(self):
        """Uses with at most 3 rows and 4 part places, whose sides raise no error."""
        rows, others = form("rows", 0, 2, (0, 1), num(0), ("then", H0, ("rest",))), form("others", 0, 2, (0, 1), num(0), ("rest",))
        uses = [own("rows", [], [num(1), num(1)], [((), [num(2)])] * many) for many in range(5)]
        template = ("then", uses[0], ("then", uses[1], ("then", uses[2], ("then", uses[3], uses[4]))))
        told = book(rows, others, form("made", 0, 0, (0, 1), template, ("pair", ("rest",), uses[1])), cells=("c",))
        changed = [one[:1] + ("others",) + one[2:] for one in uses]
        found = exchanged_book(told, "rows", "others")[2][2][5]
        self.assertEqual(found, (("then", changed[0], ("then", changed[1], ("then", changed[2], ("then", uses[3], uses[4])))), ("pair", ("rest",), changed[1])))
        # A part with rest in it varies, fails and sets.
        again = form("again", 0, 0, (0, 1), num(0), own("rows", [], [("rest",), num(1)], []))
        told = book(rows, form("others", 0, 2, (0, 1), ("then", P0, num(0)), ("rest",)), again)
        self.assertEqual(exchanged_book(told, "rows", "others"), told)
        # No common plain scheme: an error of sides.
        told = book(form("one", 0, 1, None, ("then", P0, num(1))), form("other", 0, 1, None, ("then", P0, YES)), form("made", 0, 0, None, own("one", [], [num(1)])))
        self.assertEqual(exchanged_book(told, "one", "other"), told)

    def test_what_would_be_no_book(self):
        # A part that the one form drops may read what is let nowhere; the other form does it.
        other, third = form("other", 1, 2, None, ("then", num(1), num(1))), form("third", 1, 2, None, ("then", num(1), ("then", P1, num(1))))
        lets = book(other, third, form("made", 0, 0, None, ("let", "x", num(1), ("pair", own("other", ["t"], [num(1), name("x")]), own("other", ["u"], [num(1), num(1)])))))
        found = exchanged_book(lets, "other", "third")[2][2][5][0]
        self.assertEqual(found[3][1][1], "third")
        free = book(other, third, form("made", 0, 0, None, ("pair", own("other", ["t"], [num(1), name("t")]), own("other", ["u"], [num(1), num(1)]))))
        found = exchanged_book(free, "other", "third")[2][2][5][0]
        self.assertEqual((found[1][1], found[2][1]), ("other", "third"))

    def test_small_books(self):
        """Programs show the same by both books, and forms have equal sheets by each common plain scheme."""
        tried = 0
        for seed in range(80):
            maker = Kindly(seed, cells=("c",), rows=seed % 3 == 0)
            told = alike_but_for_some(maker)
            for word in ("made", "more"):
                told = maker.with_form(told, word, 3)
            made = exchanged_book(told, told[2][0][1], "xa")
            self.assertEqual(exchanged_book(told, told[2][0][1], "xa"), made)
            if made == told:
                continue
            tried += 1
            for one in told[2][2:]:
                many = maker.random.randint(0, 1) if one[4] else 0
                both = common(plain(told, one[1], many), plain(made, one[1], many))
                if both is not None:
                    self.assertEqual(behaviour(told, one[1], many, both), behaviour(made, one[1], many, both))
            for _ in range(4):
                e = around(maker, told)
                if None not in (kind_of(told, e), kind_of(made, e)) and is_closed(told, e) and is_closed(made, e):
                    inputs = [maker.random.randint(0, 7) for _ in range(10)]
                    try:
                        self.assertEqual(run(told, e, inputs, 50), run(made, e, inputs, 50))
                    except TooMany:
                        pass
        self.assertGreater(tried, 8)


if __name__ == "__main__":
    unittest.main()
