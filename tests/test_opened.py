"""Places, outcomes, open runs, sheets and least sheets."""

import unittest

import naive
import naiveplays

from formrules.errors import (
    BadAnswers, BadBook, BadForm, BadKind, BadMany, BadMost, BadPlain, BadSheet, NoPlain, TooMany,
)
from formrules.least import behaviour, least
from formrules.opened import played
from formrules.places import outcomes, places
from formrules.plains import plain
from formrules.sheets import is_sheet, sheet_played

from calls import check_calls
from fixtures import (
    ASK, B0, B1, BOOK32, BOOK47, BOOK58, H0, MIXED, NO, ODDITIES, P0, P1, R0, YES, book, form, name, num, own,
)
from kindly import Kindly
from test_plains import doubled, filling_of

N, T = ("number",), ("truth",)
A0, A1 = ("any", 0), ("any", 1)
KEEP = form("keep", 0, 1, None, (
    "let", "t", ("get", "c"), ("let", "u", P0, ("then", ("set", "c", name("t")), name("u")))))
KEEPING = book(KEEP, cells=("c",))
# The behaviours of [68].
KEPT = ((0,), (
    ((N,), ("does", P0, (), (("thing", 0),), ((1, (0, 1)),), ())),
    ((N, A0), ("ends", ("thing", 1), (("thing", 0),))),
))
BOTH = ((), (
    ((), ("does", P0, (), (), ((1, ()), (2, ())), ())),
    ((), ("does", P1, (), (), ((3, ()), (2, ())), ())),
    ((), ("ends", NO, ())),
    ((), ("ends", YES, ())),
))
# Forms that have no plain scheme, that have too many rows, or too great a scheme.
RESTS = form("rests", 0, 0, (0, 1), num(0), ("pair", H0, ("pair", H0, ("pair", ("rest",), ("rest",)))))
GREAT = form("great", 0, 1, None, doubled(8))
EVIL = book(*BOOK58[2], GREAT, form("seq", 0, 1, (1, 1), P0, ("let", R0, H0, ("rest",))), RESTS, cells=("c",))


def thing(at):
    return ("thing", at)


def ends(*ks):
    return [("ends", k) for k in ks]


def check_plain(test, function, good, wrong):
    """Hold a function with plain against the errors that it brings, behind the others in this order.

    good is a dict of values that are right for the form seq of EVIL with one row; wrong a dict of
    values of other parameters than book, name, many and plain, that are wrong, with their errors.
    """
    for more, error, most in (
        ({"many": 4, "plain": 1}, TooMany, 3), ({"name": "great", "many": 0, "plain": 1}, TooMany, 100),
        ({"name": "f", "many": 0, "plain": 1}, NoPlain, None), ({"plain": 1}, BadPlain, None),
        ({"plain": ("plain", (), (), N)}, BadPlain, None), ({"plain": plain(EVIL, "seq", 2)}, BadPlain, None),
    ):
        with test.assertRaises(error) as caught:
            function(**{**good, **more})
        if most is not None:
            test.assertEqual(caught.exception.most, most)
        for at, (value, first) in wrong.items():
            with test.assertRaises(first):
                function(**{**good, **more, at: value})
    told = plain(EVIL, "seq", 1)
    test.assertEqual(function(**{**good, "plain": told}), function(**good))
    test.assertEqual(function(**{**good, "plain": None}), function(**good))


class Places(unittest.TestCase):
    def test_calls(self):
        bad = [("book", None, BadBook)] + [("name", one, BadForm) for one in ("none", None, 1)]
        bad += [("many", one, BadMany) for one in (-1, 9, True, None)]
        check_calls(self, places, {"book": MIXED, "name": "seq", "many": 1}, bad)
        check_calls(self, outcomes, {"kind": N}, [("kind", one, BadKind) for one in ODDITIES if one != ("any",)] + [("kind", ("any",), BadKind)])

    def test_places(self):
        told = book(form("g", 2, 2, (1, 2), P0, H0))
        self.assertEqual(places(told, "g", 0), ((B0, B1), (P0, P1)))
        self.assertEqual(places(told, "g", 2), (
            (B0, B1, ("row", 0, 0), ("row", 1, 0)),
            (P0, P1, ("here", 0, 0), ("here", 0, 1), ("here", 1, 0), ("here", 1, 1)),
        ))
        self.assertEqual(len(places(told, "g", 8)[1]), 18)

    def test_outcomes(self):
        for kind, found in (
            (T, (YES, NO)), (N, (thing(0),)), (("any", 7), (thing(0),)),
            (("pair", T, T), (("pair", YES, YES), ("pair", YES, NO), ("pair", NO, YES), ("pair", NO, NO))),
            (("pair", A0, ("pair", T, N)), (("pair", thing(0), ("pair", YES, thing(1))), ("pair", thing(0), ("pair", NO, thing(1))))),
            (("pair", ("pair", N, N), A0), (("pair", ("pair", thing(0), thing(1)), thing(2)),)),
        ):
            self.assertEqual(outcomes(kind), found)


class Played(unittest.TestCase):
    def test_calls(self):
        bad = [("book", None, BadBook)] + [("name", one, BadForm) for one in ("none", None, 1)]
        bad += [("many", one, BadMany) for one in (-1, 9, True, None)]
        bad += [("answers", one, BadAnswers) for one in (
            None, 1, "x", [1], [["ends", 0]], [("ends", -1)], [("ends", True)], [("ends",)], [("ends", 0, 0)], [("fails", "if")],
            [("fails", 0)], [("gives", 0)], ("ends", 0))]
        bad += [("most", one, BadMost) for one in (-1, 201, True, None, "1")]
        good = {"book": EVIL, "name": "seq", "many": 1, "answers": [("ends", 0), ("fails", "w")], "most": 5}
        check_calls(self, played, good, bad)
        check_plain(self, played, good, {"answers": ([1], BadAnswers), "most": (-1, BadMost)})
        self.assertEqual(played(**{**good, "answers": tuple(good["answers"])}), played(**good))

    def test_answers_that_a_place_does_not_have(self):
        for answers in (ends(2), ends(0, 2), ends(1000)):
            with self.assertRaises(BadAnswers):
                played(BOOK32, "both", 0, answers, 10)
        # One that nothing comes to does not matter, neither one behind most events.
        self.assertEqual(played(BOOK32, "both", 0, ends(1, 7), 10)[1], ("ends", NO, ()))
        self.assertEqual(played(BOOK32, "both", 0, ends(0, 7), 1)[1], ("more",))
        with self.assertRaises(BadPlain):
            played(BOOK32, "both", 0, ends(2), 10, 7)

    def test_examples(self):
        self.assertEqual(played(KEEPING, "keep", 0, ends(0), 9), ((("does", P0, (), (thing(0),)),), ("ends", thing(1), (thing(0),))))
        self.assertEqual(played(KEEPING, "keep", 0, [("fails", "w")], 9), ((("does", P0, (), (thing(0),)),), ("fails", "w", (thing(1),))))
        first, second = ("does", P0, (), ()), ("does", P1, (), ())
        self.assertEqual(played(BOOK32, "both", 0, ends(0, 1), 9), ((first, second), ("ends", NO, ())))
        self.assertEqual(played(BOOK32, "both", 0, ends(0), 9), ((first, second), ("open",)))
        self.assertEqual(played(BOOK32, "both", 0, [], 9), ((first,), ("open",)))
        self.assertEqual(played(BOOK32, "both", 0, ends(0), 1), ((first,), ("more",)))
        self.assertEqual(played(BOOK32, "both", 0, [], 1), ((first,), ("open",)))
        self.assertEqual(played(BOOK32, "both", 0, [], 0), ((), ("more",)))

    def test_what_is_seen(self):
        found = played(BOOK32, "twice", 0, ends(0, 0, 0), 9)
        seen = ("does", P1, (thing(0),), ())
        self.assertEqual(found, ((("does", P0, (None,), ()), seen, seen), ("ends", thing(2), ())))
        found = played(BOOK47, "seq", 2, ends(0, 0, 0), 9)
        self.assertEqual([event[1:3] for event in found[0]], [
            (("here", 0, 0), (None, None)), (("here", 1, 0), (thing(0), None)), (P0, (thing(0), thing(1)))])
        # The nearest let tells; names around another place are not seen.
        rule = ("let", B0, num(1), ("then", ("let", B0, YES, P0), ("then", P0, ("then", ("let", B1, num(2), P0), P0))))
        told = book(form("g", 2, 1, None, rule))
        # A place has one kind: B0 is a number and a truth.
        with self.assertRaises(NoPlain):
            played(told, "g", 0, [], 9)
        rule = ("let", B0, num(1), ("then", ("let", B0, num(3), P0), ("then", P0, ("then", ("let", B1, num(2), P0), P0))))
        found = played(book(form("g", 2, 1, None, rule)), "g", 0, ends(0, 0, 0, 0), 9)
        self.assertEqual([event[2] for event in found[0]], [(num(3), None), (num(1), None), (num(1), num(2)), (num(1), None)])
        # What a form within is given is let there.
        inner = form("inner", 1, 1, None, ("let", B0, ASK, P0))
        told = book(inner, form("g", 2, 1, None, own("inner", [B1], [own("inner", ["t"], [("pair", name("t"), P0)])])))
        found = played(told, "g", 0, ends(0), 9)
        self.assertEqual(found, ((("asks",), ("asks",), ("does", P0, (None, thing(0)), ())), ("ends", ("pair", thing(1), thing(2)), ())))

    def test_cells_and_new_things(self):
        rule = ("then", ("set", "d", num(4)), ("then", P0, ("then", ("set", "c", ASK), ("show", ("pair", P0, ("get", "d"))))))
        told = book(form("g", 0, 1, None, rule), cells=("c", "d"))
        self.assertEqual(played(told, "g", 0, ends(0, 0), 9), ((
            ("does", P0, (), (thing(0), num(4))), ("asks",), ("does", P0, (), (thing(5), thing(4))),
            ("shows", ("pair", thing(6), thing(8))),
        ), ("ends", ("pair", thing(6), thing(8)), (thing(7), thing(8)))))
        # By a filling there are things for each number and unknown in it.
        filling = ("plain", (), ((P0, ("pair", A0, ("pair", T, N))),), ("pair", ("pair", A0, ("pair", T, N)), N))
        self.assertEqual(played(told, "g", 0, ends(0, 1), 9, filling), ((
            ("does", P0, (), (thing(0), num(4))), ("asks",), ("does", P0, (), (thing(6), thing(5))),
            ("shows", ("pair", ("pair", thing(7), ("pair", NO, thing(8))), thing(10))),
        ), ("ends", ("pair", ("pair", thing(7), ("pair", NO, thing(8))), thing(10)), (thing(9), thing(10)))))

    def test_faults(self):
        rule = ("catch", "w", ("then", ("set", "c", num(1)), P0), ("catch", "v", P0, ("fail", "u")))
        told = book(form("g", 0, 1, None, rule), cells=("c",))
        once = ("does", P0, (), (num(1),))
        self.assertEqual(played(told, "g", 0, [("fails", "v")], 9), ((once,), ("fails", "v", (thing(1),))))
        again = ("does", P0, (), (thing(1),))
        self.assertEqual(played(told, "g", 0, [("fails", "w"), ("fails", "w")], 9), ((once, again), ("fails", "w", (thing(2),))))
        self.assertEqual(played(told, "g", 0, [("fails", "w"), ("fails", "v")], 9), ((once, again), ("fails", "u", (thing(2),))))
        # Nobody's faults are fresh: a part's fault is caught by a form within.
        inner = form("inner", 0, 1, None, ("catch", "w", P0, num(7)))
        told = book(inner, form("g", 0, 1, None, own("inner", [], [P0])))
        self.assertEqual(played(told, "g", 0, [("fails", "w")], 9)[1], ("ends", num(7), ()))

    def test_what_never_ends(self):
        for rule, events in (
            (("while", YES, num(1)), 0), (("while", YES, ("set", "c", num(3))), 0), (("then", ("show", num(1)), ("while", YES, num(1))), 1),
            (("while", YES, ("let", "t", ("get", "c"), ("then", ("set", "c", ("get", "d")), ("set", "d", name("t"))))), 0),
            (("while", ("catch", "w", ("fail", "w"), YES), ("while", NO, num(1))), 0),
        ):
            told = book(form("g", 0, 1, None, rule), cells=("c", "d"))
            found = played(told, "g", 0, [], 9)
            self.assertEqual((len(found[0]), found[1]), (events, ("never",)), rule)
        told = book(form("g", 0, 2, None, ("while", P0, ("while", P1, num(1)))))
        self.assertEqual(len(played(told, "g", 0, ends(*[0] * 60), 50)[0]), 50)
        self.assertEqual(played(told, "g", 0, ends(0, 0, 1, 1), 50)[1], ("ends", num(0), ()))

    def test_small_books(self):
        tried, heads = 0, {}
        for seed in range(120):
            maker = Kindly(seed, cells=[(), ("c",), ("c", "d")][seed % 3])
            told = maker.book(3, 4)
            for one in told[2]:
                for many in range(3 if one[4] else 1):
                    weak = plain(told, one[1], many)
                    for wanted in (None, filling_of(maker, weak)):
                        for _ in range(2):
                            tried += self.check(maker, told, one[1], many, wanted, wanted or weak, heads)
        self.assertGreater(tried, 600)
        self.assertLessEqual({"ends", "fails", "more", "open"}, set(heads))

    def check(self, maker, told, word, many, wanted, kinds, heads):
        answers = [("fails", maker.pick("vwz")) if maker.random.random() < 0.2 else ("ends", maker.pick([0, 0, 1, 2]))
                   for _ in range(maker.random.randint(0, 6))]
        most = maker.random.randint(0, 9)
        try:
            right = naiveplays.play(told, word, many, kinds, answers, most)
        except IndexError:
            with self.assertRaises(BadAnswers):
                played(told, word, many, answers, most, wanted)
            return 0
        except naive.TooLong:
            return 0
        self.assertEqual(played(told, word, many, answers, most, wanted), right)
        heads[right[1][0]] = True
        try:
            sheet = behaviour(told, word, many, wanted)
        except TooMany:
            return 0
        self.assertEqual(sheet_played(told, word, many, sheet, answers, most, wanted), right)
        return 1


class IsSheet(unittest.TestCase):
    def test_calls(self):
        bad = [("book", None, BadBook)] + [("name", one, BadForm) for one in ("none", None, 1)]
        bad += [("many", one, BadMany) for one in (-1, 9, True, None)]
        good = {"book": EVIL, "name": "seq", "many": 1, "thing": behaviour(EVIL, "seq", 1)}
        check_calls(self, is_sheet, good, bad)
        check_plain(self, is_sheet, good, {})

    def check(self, one, right, told=KEEPING, word="keep"):
        self.assertIs(is_sheet(told, word, 0, one), right, one)

    def test_sheets(self):
        self.check(KEPT, True)
        self.assertIs(is_sheet(BOOK32, "both", 0, BOTH), True)
        self.check(((), (((), ("never",)),)), True)
        # Rows that do not come, that hold what they do not need, and in any order.
        self.check(((0,), KEPT[1] + (((A0, N, A0), ("never",)),)), True)
        self.check(((), (((), ("asks", (1, (0,)))), ((N,), ("shows", ("pair", num(3), YES), (2, (0,)))), ((N,), ("fails", "w", (thing(0),))))), True)
        self.check(((), (((), ("fails", "w", (num(3),))),)), True)
        catching = ("does", P0, (), (num(7),), ((1, (0, 1)),), (("u", (2, (0,))), ("w", (2, (0,)))))
        self.check(((), (((), catching), ((A0, N), ("ends", thing(0), (thing(1),))), ((N,), ("asks", (2, (1,)))))), True)

    def test_no_sheets(self):
        for one in ODDITIES + [
            ((), ()), (0, KEPT[1]), ((0,), list(KEPT[1])), [(0,), KEPT[1]], ((0,), KEPT[1], 1), ((), KEPT[1]), ((1,), KEPT[1]), ((True,), KEPT[1]),
            ((False,), KEPT[1]), ((0, 0), (((N, N), ("never",)),)), ((0,), (((A0,), ("never",)),)), ((0,), KEPT[1][:1]), ((0,), (KEPT[1][0], 1)),
            ((0,), (KEPT[1][0], ((N, A0), ("ends", thing(1), (thing(0),)), 1))),
        ]:
            self.check(one, False)

    def test_no_kinds(self):
        for kinds in (([N],), (1,), (T,), (A1,), (("any", True),), (("any", -1),), (("pair", N, N),), N, ("number",), [N]):
            self.check(((), (((), ("never",)), (kinds, ("never",)))), False)

    def with_second(self, kinds, what):
        return ((), (((), ("never",)), (kinds, what)))

    def test_whats(self):
        held = (thing(0),)
        does = ("does", P0, (), held, ((2, ()),), ())
        for kinds, what, right in (
            ((N,), does, True), ((N,), does[:5], False), ((N,), does + (1,), False), ((N,), list(does), False),
            ((N,), ("does", P1, (), held, ((2, ()),), ()), False), ((N,), ("does", ("part", False), (), held, ((2, ()),), ()), False),
            ((N,), ("does", ["part", 0], (), held, ((2, ()),), ()), False), ((N,), ("does", B0, (), held, ((2, ()),), ()), False),
            ((N,), ("does", P0, (None,), held, ((2, ()),), ()), False), ((N,), ("does", P0, [], held, ((2, ()),), ()), False),
            ((N,), ("does", P0, (), (), ((2, ()),), ()), False), ((A0,), does, False), ((N,), ("does", P0, (), (thing(1),), ((2, ()),), ()), False),
            ((N,), ("does", P0, (), (YES,), ((2, ()),), ()), False), ((N,), ("does", P0, (), (None,), ((2, ()),), ()), False),
            ((N,), ("does", P0, (), held, (), ()), False), ((N,), ("does", P0, (), held, ((2, ()), (2, ())), ()), False),
            ((N,), ("does", P0, (), held, [(2, ())], ()), False), ((N,), ("does", P0, (), held, ((2, ()),), [("w", (2, ()))]), False),
            ((N,), ("does", P0, (), held, ((2, ()),), (("w", (2, ())), ("w", (2, ())))), False),
            ((N,), ("does", P0, (), held, ((2, ()),), (("w", (2, ())), ("v", (2, ())))), False),
            ((N,), ("does", P0, (), held, ((2, ()),), (("if", (2, ())),)), False),
            ((N,), ("does", P0, (), held, ((2, ()),), (["w", (2, ())],)), False),
            ((N,), ("does", P0, (), held, ((2, ()),), (("w", 2),)), False), ((N,), ("does", P0, (), held, ((2, ()),), (("w",),)), False),
            ((N,), ("shows", ("pair", thing(0), ("pair", YES, num(3))), (2, ())), True), ((N,), ("shows", thing(1), (2, ())), False),
            ((N,), ("shows", num(8), (2, ())), False), ((N,), ("shows", None, (2, ())), False), ((N,), ("shows", thing(True), (2, ())), False),
            ((N,), ("shows", ("pair", thing(0)), (2, ())), False), ((N,), ("shows", N, (2, ())), False), ((N,), ("shows", thing(0)), False),
            ((N,), ("asks", (2, ())), True), ((N,), ("asks", 2), False), ((N,), ("asks",), False), ((N,), ("asks", (3, ())), False),
            ((N,), ("asks", (True, ())), False), ((N,), ("asks", (-1, ())), False), ((N,), ("asks", [2, ()]), False), ((N,), ("asks", (2, [])), False),
            ((N, A0), ("ends", thing(1), held), True), ((N, A0), ("ends", thing(0), held), False), ((N, A0), ("ends", num(1), held), False),
            ((N, A0), ("ends", ("pair", thing(1), thing(1)), held), False), ((N, A0), ("ends", thing(1), ()), False),
            ((N, A0), ("ends", thing(1), (thing(1),)), False), ((N, A0), ("ends", thing(1), (num(8),)), False), ((N, A0), ("ends", thing(1)), False),
            ((N,), ("fails", "w", held), True), ((N,), ("fails", "if", held), False), ((N,), ("fails", 1, held), False), ((N,), ("fails", "w", ()), False),
            ((N,), ("never",), True), ((N,), ("never", ()), False), ((N,), ("waits",), False), ((N,), (), False), ((N,), None, False),
        ):
            self.check(((), (((), ("never",)), (kinds, what), ((), ("never",)))), right)

    def test_ons(self):
        # Row 2 holds a number, a thing of the unknown kind, and a number.
        for kinds, on, right in (
            ((N, A0, N), (2, (0, 1, 2)), True), ((N, A0, N), (2, (2, 1, 0)), True), ((N, A0, N), (2, (4, 3, 0)), True), ((A0,), (2, (2, 0, 2)), False),
            ((N, A0, N), (2, (0, 1, 0)), False), ((N, A0, N), (2, (0, 2, 1)), False), ((N, A0, N), (2, (0, 1)), False),
            ((N, A0, N), (2, (0, 1, 2, 3)), False), ((N, A0, N), (2, (0, 1, 5)), False), ((N, A0, N), (2, (0, 1, -1)), False),
            ((N, A0, N), (2, (False, 1, 2)), False), ((), (2, (1, 0, 1)), False), ((N,), (2, (0, 1, 2)), True), ((N,), (2, (0, 2, 1)), False),
        ):
            does = ("does", P0, (), (num(0),), (on,), ())
            self.check(((), (((), ("never",)), (kinds, does), ((N, A0, N), ("never",)))), right)
        for on, right in (((2, (0, 1, 3)), True), ((2, (3, 1, 0)), True), ((2, (0, 3, 1)), False), ((2, (0, 1, 4)), False)):
            asks = ((), (((), ("never",)), ((N, A0, A0), ("asks", on)), ((N, A0, N), ("never",))))
            self.check(asks, right)
            shows = ((), (((), ("never",)), ((N, A0, A0, N), ("shows", num(1), on)), ((N, A0, N), ("never",))))
            self.check(shows, right)
            does = ("does", P0, (), (num(0),), ((0, ()),), (("w", on),))
            self.check(((), (((), ("never",)), ((N, A0, A0), does), ((N, A0, N), ("never",)))), right)

    def test_kinds_of_terms(self):
        # A form with a name place that is a pair of a number and a truth, and a whole of that kind.
        rule = ("let", B0, ("pair", ASK, YES), ("then", P0, name(B0)))
        told = book(form("g", 1, 1, None, rule))
        for seen, right in (
            (None, True), (("pair", num(3), YES), True), (("pair", thing(0), NO), True), (("pair", thing(1), NO), False),
            (("pair", thing(0), thing(0)), False), (("pair", YES, YES), False), (thing(0), False), (num(1), False), (("pair", num(1), num(1)), False),
        ):
            for what in (("does", P0, (seen,), (), ((0, ()),), ()), ("ends", seen, ())):
                wanted = right and not (what[0] == "ends" and seen is None)
                self.check(((), (((), ("never",)), ((N, A0), what))), wanted, told, "g")
        # By a filling things are of the unknowns of that one.
        filling = ("plain", ((B0, ("pair", N, T)),), ((P0, ("any", 4)),), ("pair", N, T))
        one = ((), (((), ("never",)), ((("any", 4),), ("never",))))
        self.assertIs(is_sheet(told, "g", 0, one, filling), True)
        self.assertIs(is_sheet(told, "g", 0, one), False)


class SheetPlayed(unittest.TestCase):
    def test_calls(self):
        sheet = behaviour(EVIL, "seq", 1)
        good = {"book": EVIL, "name": "seq", "many": 1, "sheet": sheet, "answers": [("ends", 0)], "most": 9}
        bad = [("book", None, BadBook)] + [("name", one, BadForm) for one in ("none", None, 1)]
        bad += [("many", one, BadMany) for one in (-1, 9, True, None)] + [("answers", 1, BadAnswers), ("most", None, BadMost)]
        check_calls(self, sheet_played, good, bad)
        check_plain(self, sheet_played, good, {"answers": ([1], BadAnswers), "most": (-1, BadMost)})
        for more, error in (({}, BadSheet), ({"plain": 1}, BadPlain), ({"most": -1}, BadMost), ({"answers": ends(5)}, BadSheet)):
            with self.assertRaises(error):
                sheet_played(**{**good, "sheet": None, **more})
        with self.assertRaises(BadAnswers):
            sheet_played(**{**good, "answers": ends(5)})

    def test_sheets_that_are_no_forms(self):
        catching = ("does", P0, (), (thing(0),), ((1, (1, 2)),), (("w", (2, (1, 0))),))
        sheet = ((0,), (
            ((N,), catching), ((A0, N), ("ends", thing(0), (thing(1),))),
            ((N, N), ("shows", ("pair", thing(1), thing(0)), (3, (0,)))), ((N,), ("asks", (4, (1, 0)))), ((N, N), ("fails", "v", (thing(0),))),
        ))
        once = ("does", P0, (), (thing(0),))
        for answers, most, found in (
            ([], 9, ((once,), ("open",))), (ends(0), 9, ((once,), ("ends", thing(1), (thing(2),)))), ([], 0, ((), ("more",))),
            ([("fails", "v")], 9, ((once,), ("fails", "v", (thing(1),)))),
            ([("fails", "w")], 9, ((once, ("shows", ("pair", thing(0), thing(1))), ("asks",)), ("fails", "v", (thing(2),)))),
            ([("fails", "w")], 2, ((once, ("shows", ("pair", thing(0), thing(1)))), ("more",))),
        ):
            self.assertEqual(sheet_played(KEEPING, "keep", 0, sheet, answers, most), (found))
        turning = ((), (((), ("does", P0, (), (num(0),), ((0, ()),), ())),))
        self.assertEqual(sheet_played(KEEPING, "keep", 0, turning, ends(0, 0), 9), ((("does", P0, (), (num(0),)),) * 3, ("open",)))
        self.assertEqual(sheet_played(KEEPING, "keep", 0, ((), (((), ("never",)),)), ends(0), 9), ((), ("never",)))


class Least(unittest.TestCase):
    def test_calls(self):
        bad = [("book", None, BadBook)] + [("name", one, BadForm) for one in ("none", None, 1)]
        bad += [("many", one, BadMany) for one in (-1, 9, True, None)]
        good = {"book": EVIL, "name": "seq", "many": 1}
        check_calls(self, behaviour, good, bad)
        check_plain(self, behaviour, good, {})
        good["sheet"] = behaviour(EVIL, "seq", 1)
        check_calls(self, least, good, bad)
        check_plain(self, least, good, {})
        for more, error in (({}, BadSheet), ({"plain": 1}, BadPlain), ({"many": 4}, TooMany), ({"name": "f", "many": 0}, NoPlain)):
            with self.assertRaises(error):
                least(**{**good, "sheet": None, **more})

    def test_examples(self):
        self.assertEqual(behaviour(KEEPING, "keep", 0), KEPT)
        self.assertEqual(behaviour(BOOK32, "both", 0), BOTH)

    def test_templates_with_one_behaviour(self):
        for one, other in (
            (P0, ("first", ("pair", P0, num(1)))), (P0, ("let", "t", P0, name("t"))), (("then", num(1), P0), ("catch", "w", P0, ("fail", "w"))),
            (("while", P1, P0), ("if", P1, ("then", P0, ("while", P1, P0)), num(0))), (("catch", "w", P0, P0), ("catch", "w", P0, ("catch", "v", P0, ("fail", "v")))),
            (("while", P1, ("while", P1, P0)), ("while", P1, ("while", P1, ("then", P0, num(4))))),
            (("let", "t", ("get", "c"), ("then", ("set", "c", name("t")), P0)), P0), (("while", YES, num(1)), ("while", YES, ("while", YES, NO))),
            (("let", "t", ("pair", P1, P1), P0), ("then", P1, ("then", P1, P0))), (("if", P1, P0, P0), ("then", P1, P0)),
        ):
            told = book(form("one", 0, 2, None, ("then", ("if", P1, num(1), num(1)), ("pair", one, P0))),
                        form("other", 0, 2, None, ("then", ("if", P1, num(1), num(1)), ("pair", other, P0))), cells=("c",))
            self.assertEqual(behaviour(told, "one", 0), behaviour(told, "other", 0), (one, other))

    def test_least_sheets(self):
        # Rows that do not come, that are alike, things that never come, and catches that pass on.
        sheet = ((0,), (
            ((N,), ("does", P0, (), (thing(0),), ((3, (1, 0, 2)),), (("w", (2, (1,))),))), ((), ("never",)),
            ((N,), ("fails", "w", (thing(0),))), ((A0, N, N), ("ends", thing(0), (thing(1),))),
        ))
        self.assertEqual(least(KEEPING, "keep", 0, sheet), KEPT)
        # Held by the first row, but in cells no more.
        sheet = ((0,), (((N,), ("shows", num(1), (1, (0,)))), ((N,), ("fails", "w", (num(2),)))))
        found = ((), (((), ("shows", num(1), (1, ()))), ((), ("fails", "w", (num(2),)))))
        self.assertEqual(least(KEEPING, "keep", 0, sheet), found)
        # A catch that shows something, fails otherwise, or does not hand on the cells, is kept.
        for kinds, what in (((N,), ("fails", "v", (thing(0),))), ((N,), ("fails", "w", (num(0),))), ((N,), ("shows", num(1), (2, (0,))))):
            sheet = ((0,), (((N,), ("does", P0, (), (thing(0),), ((1, (0, 1)),), (("w", (2, (1,))),))), KEPT[1][1], (kinds, what)))
            self.assertEqual(len(least(KEEPING, "keep", 0, sheet)[1]), 3, what)
        turning = ((), (((), ("shows", num(1), (1, ()))), ((), ("shows", num(1), (2, ()))), ((), ("shows", num(1), (1, ())))))
        self.assertEqual(least(KEEPING, "keep", 0, turning), ((), (((), ("shows", num(1), (0, ()))),)))
        # Two things change places ever again: so there are two rows, each is the other one with its things exchanged.
        one, two = book(form("g", 0, 1, None, ("pair", P0, P0))), A0
        sheet = ((), (
            ((), ("does", P0, (), (), ((1, (0,)),), ())), ((two,), ("does", P0, (), (), ((2, (0, 1)),), ())),
            ((two, two), ("shows", thing(0), (3, (1, 0)))), ((two, two), ("shows", thing(0), (2, (1, 0)))),
        ))
        self.assertEqual(least(one, "g", 0, sheet, ("plain", (), ((P0, A0),), ("pair", A0, A0))), ((), (
            ((), ("does", P0, (), (), ((1, (0,)),), ())), ((two,), ("does", P0, (), (), ((2, (0, 1)),), ())),
            ((two, two), ("shows", thing(0), (2, (1, 0)))),
        )))

    def test_too_many_rows(self):
        def shows(many, end):
            rows = [((), ("shows", num(k % 7), (k + 1, ()))) for k in range(many - 1)]
            return ((), tuple(rows) + (((), end),))

        self.assertEqual(len(least(KEEPING, "keep", 0, shows(200, ("never",)))[1]), 200)
        with self.assertRaises(TooMany) as caught:
            least(KEEPING, "keep", 0, shows(201, ("never",)))
        self.assertEqual(caught.exception.most, 200)
        # There may be more rows if they are alike.
        ring = ((), tuple(((), ("shows", num(k % 7), ((k + 1) % 700, ()))) for k in range(700)))
        self.assertEqual(len(least(KEEPING, "keep", 0, ring)[1]), 7)

        def tree(many):
            return P0 if many == 1 else ("pair", tree(many // 2), tree(many - many // 2))

        for many, rows in ((2, 9), (6, 129), (7, None), (30, None)):
            told = book(form("g", 0, 1, None, ("if", P0, tree(many), ("fail", "w"))))
            if rows:
                self.assertEqual(len(behaviour(told, "g", 0)[1]), rows)
            else:
                with self.assertRaises(TooMany) as caught:
                    behaviour(told, "g", 0)
                self.assertEqual(caught.exception.most, 200)
        told = book(form("g", 0, 2, None, ("while", P1, ("show", ("if", P0, tree(20), tree(20))))))
        with self.assertRaises(TooMany):
            behaviour(told, "g", 0)
        # Many standings, few rows.
        deep = P0
        for _ in range(9):
            deep = ("let", "t", P0, ("first", ("pair", deep, name("t"))))
        told = book(form("g", 0, 1, None, ("if", ("show", P0), deep, deep)))
        self.assertEqual(len(behaviour(told, "g", 0)[1]), 15)

    def test_small_books(self):
        """Least sheets are least: other sheets that play the same come to them, and no two of their rows are alike."""
        tried = 0
        for seed in range(80):
            maker = Kindly(seed, cells=[(), ("c",), ("c", "d")][seed % 3])
            told = maker.book(3, 5)
            for one in told[2]:
                for many in range(3 if one[4] else 1):
                    try:
                        sheet = behaviour(told, one[1], many)
                    except TooMany:
                        continue
                    self.assertIs(is_sheet(told, one[1], many, sheet), True)
                    self.assertEqual(least(told, one[1], many, sheet), sheet)
                    other = scattered(maker, sheet)
                    self.assertIs(is_sheet(told, one[1], many, other), True)
                    self.assertEqual(least(told, one[1], many, other), sheet)
                    tried += len(sheet[1]) > 3
        self.assertGreater(tried, 60)

    def test_fillings(self):
        """By a filling nothing new is done: things give way to terms of its outcomes."""
        tried = 0
        for seed in range(60):
            maker = Kindly(seed)
            told = maker.book(2, 4)
            word = told[2][-1][1]
            many = 1 if told[2][-1][4] else 0
            weak = plain(told, word, many)
            filling = filling_of(maker, weak)
            for _ in range(5):
                answers = [("fails", "v") if maker.random.random() < 0.2 else ("ends", maker.random.randint(0, 1)) for _ in range(4)]
                try:
                    events, end = played(told, word, many, answers, 9, filling)
                except BadAnswers:
                    continue
                plainer = []
                for event, answer in zip([event for event in events if event[0] == "does"], answers):
                    plainer.append(answer if answer[0] == "fails" else ("ends", plain_index(dict(weak[2])[event[1]], dict(filling[2])[event[1]], answer[1])))
                before = played(told, word, many, plainer + answers[len(plainer):], 9)
                self.assertEqual([event[:2] if event[0] == "does" else event[0] for event in before[0]],
                                 [event[:2] if event[0] == "does" else event[0] for event in events])
                self.assertEqual(before[1][0], end[0])
                tried += weak != filling and len(events) > 1
        self.assertGreater(tried, 20)


def plain_index(kind, filled, k):
    """Give the index of the outcome of a kind that the outcome k of its filling comes of."""
    if kind[0] != "pair":
        return k if kind == T else 0
    many = len(outcomes(filled[2]))
    first, second = plain_index(kind[1], filled[1], k // many), plain_index(kind[2], filled[2], k % many)
    return first * len(outcomes(kind[2])) + second


def scattered(maker, sheet):
    """Give a sheet that plays the same, each row twice, in another order, with things that nobody needs."""
    first, rows = sheet
    order = [(at, copy) for at in range(len(rows)) for copy in range(2)]
    maker.random.shuffle(order)
    order.remove((0, 0))
    order.insert(0, (0, 0))
    number = {one: at for at, one in enumerate(order)}
    places = {}
    for one in order:
        held = list(range(len(rows[one[0]][0])))
        maker.random.shuffle(held)
        places[one] = held

    def moved(term, held):
        if term is None or term[0] in ("number", "truth"):
            return term
        if term[0] == "pair":
            return ("pair", moved(term[1], held), moved(term[2], held))
        return ("thing", held.index(term[1]))

    def on(told, kinds, held):
        target = (told[0], maker.random.randint(0, 1))
        things = [told[1][at] for at in places[target]]
        return number[target], tuple(held.index(at) if at < len(kinds) else at for at in things)

    made = []
    for one in order:
        kinds, what = rows[one[0]]
        held = places[one]
        items = []
        for at, item in enumerate(what):
            if what[0] == "does" and at in (2, 3):
                item = tuple(moved(term, held) for term in item)
            elif what[0] == "does" and at == 4:
                item = tuple(on(told, kinds, held) for told in item)
            elif what[0] == "does" and at == 5:
                item = tuple((fault, on(told, kinds, held)) for fault, told in item)
            elif at > 0 and (what[0], at) in (("shows", 2), ("asks", 1)):
                item = on(item, kinds, held)
            elif (what[0], at) in (("shows", 1), ("ends", 1)):
                item = moved(item, held)
            elif (what[0], at) in (("ends", 2), ("fails", 2)):
                item = tuple(moved(term, held) for term in item)
            items.append(item)
        made.append((tuple(kinds[at] for at in held), tuple(items)))
    return tuple(first[at] for at in places[(0, 0)]), tuple(made)


if __name__ == "__main__":
    unittest.main()
