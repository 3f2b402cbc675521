"""Ways that real runs show, and bars that show that there is none."""

import unittest

import naive
import naiveruns

from formrules.barring import bar, is_bar
from formrules.counting import counted
from formrules.errors import BadGoal, BadLot
from formrules.plains import plain
from formrules.running import run
from formrules.shapes import nodes_of
from formrules.steering import is_way, way
from formrules.thinglots import needs, things

from calls import check_calls
from fixtures import ASK, B0, B1, BOOK32, H0, MIXED, NO, ODDITIES, P0, P1, P2, R0, YES, book, chain, form, inside, name, num, own, side_by_side
from kindly import Kindly
from small import KINDLY, Maker
from test_bringing import ASKS, BOOK86, ENDLESS, ENDS_N, ENDS_NO, ENDS_YES, LOOP, NO_WHATS, OTHER, READS, SETS, SHOWS, USE86
from test_needs import A0, N, S86, T, V, W, check_free
from test_opened import EVIL

ALL86 = things(BOOK86, "attempt", 0)
# Values that are no lots of the form attempt.
NO_LOTS = [one for one in ODDITIES if one != ()] + [
    list(ALL86), ALL86[1::-1], ALL86[:1] * 2, ((P0, (), ENDS_YES),), ((P0, S86, ENDS_N),), ((P1, (), ENDS_YES),), ((P2, (), ENDS_N),), ((("part", False), (), ENDS_N),), ((P0, (), ("fails", "u")),),
    ((P0, [], ENDS_N),), ([P0, (), ENDS_N],), ((P0, (), ["ends", N]),), ((P1, ((B0, YES),), ENDS_YES),), ((P1, ((("bind", False), N),), ENDS_YES),), ((P1, ((B1, N),), ENDS_YES),), ((P1, S86 + S86, ENDS_YES),),
    ((P0, ()),), ((P0, (), ENDS_N, 1),), ((None, (), ENDS_N),), ((P0, None, ENDS_N),), ((P0, (), None),), ((P1, (B0,), ENDS_YES),), ((P1, ((B0,),), ENDS_YES),), (ALL86[0], None),
]
STEERED = form("steered", 0, 1, None, ("if", P0, ("if", P0, num(0), ("fail", "w")), num(0)))


class Errors(unittest.TestCase):
    def check(self, function, behind, ways):
        good = {"book": EVIL, "name": "seq", "many": 1, "lot": (), "goal": SHOWS, **behind}
        check_free(self, function, good, {"lot": None, "goal": None})
        good = {"book": BOOK86, "name": "attempt", "many": 0, "lot": ALL86[:2], "goal": SHOWS, **behind}
        bad = [("lot", one, BadLot) for one in NO_LOTS] + [("goal", one, BadGoal) for one in NO_WHATS]
        if ways:
            bad += [("goal", ENDLESS, BadGoal), ("goal", ASKS, BadGoal)]
        check_calls(self, function, good, bad)

    def test_way(self):
        self.check(way, {}, True)
        self.check(is_way, {"thing": None}, True)

    def test_bar(self):
        self.check(bar, {}, False)
        self.check(is_bar, {"thing": None}, False)
        for goal in (ENDLESS, ASKS):
            self.assertIsNone(bar(BOOK86, "attempt", 0, ALL86, goal))


class Ways(unittest.TestCase):
    def check(self, told, word, many, lot, goal):
        """Give the way for a lot and a goal, None without one; there is just one of a way and a bar."""
        found, barred = way(told, word, many, lot, goal), bar(told, word, many, lot, goal)
        self.assertNotEqual(found is None, barred is None)
        self.assertEqual(found is not None, any(set(need) <= set(lot) for need in needs(told, word, many, goal)))
        if found is None:
            self.assertIs(is_bar(told, word, many, lot, goal, barred), True)
        else:
            self.assertIs(is_way(told, word, many, lot, goal, found), True)
            self.assertEqual(way(told, word, many, lot, goal), found)
            free = naiveruns.Form(told, word, many, plain(told, word, many))
            self.assertIs(naiveruns.is_way(free, set(lot), goal, found), True)
            self.assertIsNot(counted(told, *found), 1)
        return found

    def test_attempt(self):
        for goal in (ENDS_N, V, OTHER, READS, SETS, SHOWS):
            self.check(BOOK86, "attempt", 0, ALL86, goal)
            for need in needs(BOOK86, "attempt", 0, goal):
                self.check(BOOK86, "attempt", 0, need, goal)
                for at in range(len(need)):
                    self.check(BOOK86, "attempt", 0, need[:at] + need[at + 1:], goal)
        self.assertIsNone(self.check(BOOK86, "attempt", 0, ALL86, W))
        # Only the dim worths of the form's kind have ways.
        self.assertIsNone(self.check(BOOK86, "attempt", 0, ALL86, ENDS_YES))

    def test_asks_are_needed(self):
        """The form of [84] that fails by no part that neither reads nor asks."""
        told = book(STEERED)
        lot = ((P0, (), ENDS_YES), (P0, (), ENDS_NO))
        use, inputs = self.check(told, "steered", 0, lot, W)
        self.assertEqual(len(inputs), 2)
        self.assertEqual(run(told, use, inputs, 10)[1], W)
        for part in (YES, NO, ("if", YES, YES, NO)):
            self.assertIs(is_way(told, "steered", 0, lot, W, (own("steered", [], [part]), [])), False)
        self.assertIsNone(self.check(told, "steered", 0, lot[:1], W))

    def test_asks_of_the_rule(self):
        told = book(form("one", 0, 1, None, ("then", ("show", ASK), ("if", P0, ("then", ASK, ("if", P0, num(0), ("fail", "w"))), num(0)))))
        use, inputs = self.check(told, "one", 0, ((P0, (), ENDS_YES), (P0, (), ENDS_NO)), W)
        self.assertEqual(run(told, use, inputs, 10)[1], W)
        self.assertEqual(len(inputs), 4)

    def test_many_choices(self):
        # More outcomes than one input can tell.
        one, words = ("fail", "w"), "abcdefghij"
        e = P0
        for word in words:
            e = ("catch", word, e, P0)
        told = book(form("one", 0, 1, None, ("then", e, one)), form("faults", 0, 0, None, num(0)))
        for goal in [("fails", word) for word in words] + [W]:
            self.check(told, "one", 0, things(told, "one", 0), goal)
        # Each of the faults once, one behind the other.
        told = book(form("one", 0, 1, None, nested(words)))
        need = tuple((P0, (), ("fails", word)) for word in words)
        self.assertEqual(needs(told, "one", 0, W)[-1], need)
        use, inputs = self.check(told, "one", 0, need, W)
        self.assertGreater(len(inputs), len(words))

    def test_what_is_seen(self):
        told = book(form("one", 2, 2, None, ("let", B1, P1, ("let", B0, ("if", ("first", name(B1)), NO, YES), ("if", P0, ("fail", "w"), ("if", ("second", name(B1)), YES, NO))))))
        lot = things(told, "one", 0)
        for goal in (W, ENDS_YES, ENDS_NO, OTHER, SHOWS):
            self.check(told, "one", 0, lot, goal)
            for need in needs(told, "one", 0, goal):
                use, _ = self.check(told, "one", 0, need, goal)
                self.assertLessEqual(len(nodes_of(use)), 30)

    def test_outcomes_that_the_lot_lacks(self):
        """A part of which the lot has no outcome goes on for ever."""
        told = book(form("one", 0, 2, None, ("then", P0, ("then", P1, ("fail", "w")))), cells=("c",))
        for lot, goal in ((((P0, (), SETS),), SETS), (((P0, (), ENDLESS), (P0, (), READS)), READS), (((P0, (), OTHER), (P0, (), SHOWS)), SHOWS), (((P0, (), ("ends", A0)), (P1, (), SHOWS)), SHOWS)):
            use, inputs = self.check(told, "one", 0, lot, goal)
        self.assertIs(is_way(told, "one", 0, ((P0, (), SETS),), SETS, (own("one", [], [("then", ("set", "c", num(1)), LOOP), LOOP]), [])), True)
        self.assertIs(is_way(told, "one", 0, ((P0, (), SETS),), SETS, (own("one", [], [("set", "c", num(1)), LOOP]), [])), False)
        # Where the lot has an outcome, or that it goes on for ever, just this is let.
        lot = ((P0, (), ("ends", A0)), (P0, (), SETS))
        self.assertIs(is_way(told, "one", 0, lot, SETS, (own("one", [], [("then", ("set", "c", num(1)), LOOP), LOOP]), [])), False)
        self.assertIs(is_way(told, "one", 0, lot, SETS, (own("one", [], [("set", "c", num(1)), LOOP]), [])), True)
        self.assertIs(is_way(told, "one", 0, lot, SETS, (own("one", [], [("set", "c", num(1)), num(1)]), [])), False)

    def test_rows_and_unclear_places(self):
        told = book(
            form("seq", 0, 1, (1, 1), P0, ("let", R0, H0, ("if", name(R0), ("rest",), ("show", YES)))), form("odd", 1, 1, None, ("pair", P0, ("let", B0, YES, P0))),
            form("drop", 1, 2, None, ("then", P0, num(0))))
        for many in (0, 1, 2, 3):
            for goal in (SHOWS, ENDS_YES, ENDS_NO, OTHER):
                self.check(told, "seq", many, things(told, "seq", many), goal)
                for need in needs(told, "seq", many, goal)[:4]:
                    self.check(told, "seq", many, need, goal)
        for goal in (SHOWS, OTHER, ("ends", ("pair", A0, A0))):
            self.check(told, "odd", 0, things(told, "odd", 0), goal)
        use, _ = self.check(told, "drop", 0, things(told, "drop", 0), ENDS_N)
        self.assertEqual(use[3][1], num(0))

    def test_great_books(self):
        """The way of a form that is made of forms is found by these alone."""
        for times, made in ((2, side_by_side), (2, inside), (3, inside)):
            told = chain(times, made, 12)
            lot = things(told, "fl", 0)
            for goal in (("ends", A0), OTHER, SHOWS):
                use, inputs = way(told, "fl", 0, lot, goal)
                self.assertEqual((use[:3], inputs), (("own", "fl", ("a",)), []))
                self.assertIsNone(bar(told, "fl", 0, lot, goal))
                rest = tuple(one for one in lot if one[2] != goal)
                barred = bar(told, "fl", 0, rest, goal)
                self.assertIs(is_bar(told, "fl", 0, rest, goal, barred), True)
        told = chain(2, side_by_side, 8)
        self.check(told, "fh", 0, things(told, "fh", 0), SHOWS)

    def test_small_books(self):
        tried = {True: 0, False: 0}
        for seed in range(20):
            maker = Kindly(seed, cells=[(), ("c",), ("c", "d")][seed % 3]) if seed % 2 else Maker(seed, heads=KINDLY + ["if", "catch", "while"])
            told = maker.book(3)
            for one in told[2]:
                many = maker.random.randint(0, 2) if one[4] else 0
                if plain(told, one[1], many) is None:
                    continue
                try:
                    naiveruns.Form(told, one[1], many, plain(told, one[1], many))
                except naive.TooLong:
                    continue
                everything = things(told, one[1], many)
                for goal in (ENDS_N, ENDS_YES, ("ends", A0), OTHER, SHOWS, maker.pick([READS, SETS]) if told[1] else SHOWS, *[("fails", w) for w in naiveruns.faults_in(told)]):
                    for lot in (everything, tuple(thing for thing in everything if maker.random.random() < 0.5), *needs(told, one[1], many, goal)[:2]):
                        tried[self.check(told, one[1], many, lot, goal) is None] += 1
        self.assertGreater(min(tried.values()), 100)


def nested(words):
    """Give a template that fails with w if its part fails with each of these words, one behind the other."""
    e = ("fail", "w")
    for word in words[::-1]:
        e = ("catch", word, ("then", P0, num(0)), ("then", ("show", num(0)), e))
    return e


class IsWay(unittest.TestCase):
    def test_any_value(self):
        lot = tuple(one for one in ALL86 if one[2] not in (OTHER, ENDLESS))
        good = (own("attempt", ["x"], [ASK, ("less", ("get", "c"), name("x"))]), [1, 2, 0])

        def told(thing, goal=ENDS_N, let=lot):
            return is_way(BOOK86, "attempt", 0, let, goal, thing)

        self.assertIs(told(good), True)
        self.assertIs(told((good[0], tuple(good[1]))), True)
        for thing in ODDITIES + [
            good[:1], good + (1,), list(good), (good[0], None), (good[0], [8]), (good[0], [True]), (good[0], "1"), (num(1), []), (own("attempt", ["x"], [ASK]), []),
            (("show", good[0]), [1, 2]), (own("attempt", ["x"], [name("y"), NO]), []), (own("attempt", ["x"], [ASK, ("less", ("get", "d"), num(1))]), [1]),
        ]:
            self.assertIs(told(thing), False, thing)
        # Its parts are core expressions, and keep to the lot.
        self.assertIs(told((own("attempt", ["x"], [num(1), NO]), [])), True)
        self.assertIs(told((own("attempt", ["x"], [USE86, NO]), [1])), False)
        self.assertIs(told((own("attempt", ["x"], [num(1), NO]), []), let=()), False)
        self.assertIs(told((own("attempt", ["x"], [num(1), ("if", NO, ("fail", "u"), NO)]), [])), True)
        self.assertIs(told((own("attempt", ["x"], [num(1), ("if", ("less", name("x"), num(0)), ("fail", "u"), NO)]), [])), False)
        self.assertIs(told((own("attempt", ["x"], [num(1), ("if", ("less", name("x"), num(0)), ("fail", "w"), NO)]), [])), True)
        self.assertIs(told((own("attempt", ["x"], [num(1), ("while", ("less", name("x"), num(0)), NO)]), [])), False)
        # Its run comes to the goal, up to its end, or to where it waits.
        use = own("attempt", ["x"], [("set", "c", ASK), ("less", ASK, num(1))])
        for inputs, goals in (([], []), ([1], [SETS]), ([1, 0], [SETS]), ([1, 1], [SETS, ENDS_N]), ([1, 0, 1], [SETS, ENDS_N]), ([1, 1, 1], [SETS, ENDS_N])):
            for goal in (ENDS_N, SETS, READS, SHOWS, V, W, OTHER):
                self.assertIs(told((use, inputs), goal), goal in goals)
        # A run that never ends has come to what it did.
        endless = own("attempt", ["x"], [num(1), YES])
        self.assertIs(told((endless, []), SETS), True)
        self.assertIs(told((endless, []), ENDS_N), False)

    def test_unknowns_are_numbers(self):
        given = form("one", 1, 2, None, ("let", B0, P0, ("pair", P1, name(B0))))
        told = book(given)
        goal = ("ends", ("pair", ("any", 1), A0))
        seen = ((B0, A0),)
        lot = ((P0, (), ("ends", A0)), (P1, seen, ("ends", ("any", 1))))
        self.assertEqual(plain(told, "one", 0)[3], ("pair", ("any", 1), A0))
        self.assertIs(is_way(told, "one", 0, lot, goal, (own("one", ["x"], [ASK, name("x")]), [3])), True)
        self.assertIs(is_way(told, "one", 0, lot, goal, (own("one", ["x"], [YES, num(1)]), [])), False)
        self.assertIs(is_way(told, "one", 0, lot, goal, (own("one", ["x"], [num(1), ("first", name("x"))]), [])), False)
        self.assertIs(is_way(told, "one", 0, lot, ("ends", ("pair", N, N)), (own("one", ["x"], [ASK, name("x")]), [3])), False)

    def test_rows(self):
        told = book(form("seq", 0, 1, (1, 1), P0, ("let", R0, H0, ("rest",))))
        lot = things(told, "seq", 1)
        use = own("seq", [], [num(1)], [("x", [num(1)])])
        self.assertIs(is_way(told, "seq", 1, lot, ("ends", ("any", 1)), (use, [])), True)
        self.assertIs(is_way(told, "seq", 1, lot, ("ends", A0), (use, [])), False)
        self.assertIs(is_way(told, "seq", 0, things(told, "seq", 0), ("ends", A0), (use, [])), False)
        self.assertIs(is_way(told, "seq", 0, things(told, "seq", 0), ("ends", A0), (own("seq", [], [num(1)]), [])), True)

    def test_places_that_do_not_stand(self):
        told = book(form("drop", 1, 2, None, ("then", P0, num(0))))
        lot = ((P0, (), ("ends", ("any", 1))),)
        for part in (("fail", "w"), name("z"), ("first", num(1)), LOOP):
            self.assertIs(is_way(told, "drop", 0, lot, ENDS_N, (own("drop", ["x"], [num(1), part]), [])), True)
        self.assertIs(is_way(told, "drop", 0, lot, ENDS_N, (own("drop", ["x"], [num(1), own("drop", ["x"], [num(1), num(1)])]), [])), False)

    def test_shows_that_never_end(self):
        told = book(form("one", 0, 1, None, ("then", P0, ("while", YES, ("show", num(1))))), cells=("c",))
        use = own("one", [], [num(1)])
        self.assertIs(is_way(told, "one", 0, things(told, "one", 0), SHOWS, (use, [])), True)
        self.assertIs(is_way(told, "one", 0, things(told, "one", 0), READS, (use, [])), False)


class Bars(unittest.TestCase):
    def test_example(self):
        found = bar(BOOK86, "attempt", 0, ALL86, W)
        self.assertIs(is_bar(BOOK86, "attempt", 0, ALL86, W, found), True)
        rows = {row[:2]: row[2] for row in found}
        self.assertEqual(rows[((3,), ())], (V,))
        self.assertEqual(rows[((2, 3, 2), S86)], (ENDS_N, SETS))
        self.assertNotIn(W, rows[((), ())])
        self.assertIn(W, rows[((2,), ())])
        self.assertEqual(bar(BOOK86, "attempt", 0, (), ENDS_N), (((), (), ()), ((2,), (), ()), ((2, 2), (), ())))

    def test_any_value(self):
        found = bar(BOOK86, "attempt", 0, ALL86, W)

        def told(thing, goal=W):
            return is_bar(BOOK86, "attempt", 0, ALL86, goal, thing)

        self.assertIs(told(found[::-1]), True)
        self.assertIs(told(found, ENDS_YES), True)
        self.assertIs(told(found, V), False)
        for thing in ODDITIES + [
            list(found), found + found[:1], found[:1], found + (None,), found + (((), ()),), found + (((), (("x", N),), ("ends", N)),), found + ((None, (), ()),), found + (((1,), (), ()),), found + (((2, 3, 1, 0), (), ()),),
            found + (((True,), (), ()),), found + ((("2",), (), ()),), found + (([2], (), ()),),
        ]:
            self.assertIs(told(thing), False, thing)
        # More rows than come, and more names, do no harm.
        for names in ((("x", YES),), (("a", N), ("x", ("any", 3))), (("t", NO), (B0, YES))):
            more = found + (((3,), names, (V,)),)
            self.assertIs(told(more), True, names)
        for names in (("x",), (("x",),), (("x", num(1)),), (("if", N),), (("x", N), ("a", N)), (("a", N), ("a", N)), ((B0, N), ("a", N)), ((B1, N),), ((R0, N),), [("x", N)], (("x", N), ("x", YES)), ((("bind", False), N),)):
            more = found + (((3,), names, (V,)),)
            self.assertIs(told(more), False, names)
        for whats in ([V], (V, V), (W, V), (("fails", "u"),), ("fails", "v"), (V, ENDS_N), (None,), (("ends", num(1)),)):
            more = found + (((3,), (("x", N),), whats),)
            self.assertIs(told(more), False, whats)
        # A row that lacks what comes, or has none for a part to which a run comes.
        self.assertIs(told(found + (((3,), (("x", N),), (V,)),)), True)
        self.assertIs(told(found + (((3,), (("x", N),), (W,)),)), False)
        self.assertIs(told(found + (((2,), (("x", N),), found[1][2]),)), False)
        for at in range(len(found)):
            self.assertIs(told(found[:at] + found[at + 1:]), False)
            for k in range(len(found[at][2])):
                fewer = found[at][:2] + (found[at][2][:k] + found[at][2][k + 1:],)
                self.assertIs(told(found[:at] + (fewer,) + found[at + 1:]), False)

    def test_more_than_comes(self):
        # Rows may have more than comes, if all that would come of it is told, too.
        told = book(form("one", 0, 2, None, ("if", ("let", "t", P0, name("t")), ("fail", "w"), P1)))
        lot = ((P0, (), ENDS_NO), (P1, (), ("ends", A0)))
        rows = list(bar(told, "one", 0, lot, W))
        self.assertIs(is_bar(told, "one", 0, lot, W, tuple(rows)), True)
        paths = [row[0] for row in rows]
        # That the part says yes, too, lets the fault come.
        more = list(rows)
        more[paths.index((1,))] = ((1,), (), (ENDS_YES, ENDS_NO))
        self.assertIs(is_bar(told, "one", 0, lot, W, tuple(more)), False)
        self.assertIs(is_bar(told, "one", 0, lot, ("ends", N), tuple(more + [((2,), (), (W,))])), False)
        more[0] = ((), (), (("ends", A0), W))
        more += [((2,), (), (W,))]
        self.assertIs(is_bar(told, "one", 0, lot, OTHER, tuple(more)), True)
        self.assertIs(is_bar(told, "one", 0, lot, W, tuple(more)), False)
        # What a name may say is told for each.
        more[paths.index((1, 2))] = ((1, 2), (), (ENDS_YES, ENDS_NO))
        self.assertIs(is_bar(told, "one", 0, lot, OTHER, tuple(more)), False)
        more += [((1, 3), (("t", YES),), (ENDS_YES,))]
        self.assertIs(is_bar(told, "one", 0, lot, OTHER, tuple(more)), True)

    def test_uses_and_rest(self):
        """Parts of uses have rows with the names that they see; rest is one node."""
        told = book(
            form("both", 1, 2, None, ("if", P0, ("let", B0, NO, P1), NO)),
            form("rows", 1, 1, (1, 1), ("if", P0, YES, NO), ("let", R0, H0, own("both", [B0], [name(R0), ("if", ("rest",), ("fail", "w"), P0)]))))
        everything = things(told, "rows", 2)
        lot = tuple(one for one in everything if one[2] != ENDS_YES or one[0] == ("here", 0, 0))
        for goal in (ENDS_YES, W):
            found = bar(told, "rows", 2, lot, goal)
            if found is not None:
                self.assertIs(is_bar(told, "rows", 2, lot, goal, found), True)
                free = naiveruns.Form(told, "rows", 2, plain(told, "rows", 2))
                self.assertIs(naiveruns.is_bar(free, "rows", 2, set(lot), goal, found), True)
                for at, row in enumerate(found):
                    self.assertIs(is_bar(told, "rows", 2, lot, goal, found[:at] + found[at + 1:]), False)
        found = bar(told, "rows", 2, lot, ENDS_YES)
        names = ((B0, NO), (R0, YES))
        self.assertIn(((3, 3, 1), names), [row[:2] for row in found])
        self.assertIn(((3, 3, 1, 1), names), [row[:2] for row in found])
        self.assertEqual({row[0] for row in found}, {(), (2,), (3,), (3, 3, 0), (3, 3, 1), (3, 3, 1, 1), (3, 3, 1, 3)})

    def test_small_books(self):
        """Bars are bars by their words alone, and so are others that are made of them by small changes."""
        tried = {True: 0, False: 0}
        for seed in range(40):
            maker = Kindly(seed, cells=[(), ("c",)][seed % 2]) if seed % 3 else Maker(seed, heads=KINDLY + ["if", "catch", "while"])
            told = maker.book(3)
            for one in told[2]:
                many = maker.random.randint(0, 2) if one[4] else 0
                kinds = plain(told, one[1], many)
                if kinds is None:
                    continue
                try:
                    free = naiveruns.Form(told, one[1], many, kinds)
                except naive.TooLong:
                    continue
                everything = things(told, one[1], many)
                for goal in (ENDS_N, ENDS_YES, OTHER, ENDLESS, SHOWS, ASKS):
                    lot = tuple(thing for thing in everything if maker.random.random() < 0.6)
                    found = bar(told, one[1], many, lot, goal)
                    self.assertEqual(found is None, goal in free.under(set(lot)))
                    if found is None:
                        continue
                    for _ in range(4):
                        self.assertEqual(is_bar(told, one[1], many, lot, goal, found), naiveruns.is_bar(free, one[1], many, set(lot), goal, found))
                        tried[is_bar(told, one[1], many, lot, goal, found)] += 1
                        found = changed(maker, told, found)
        self.assertGreater(min(tried.values()), 150)


def changed(maker, told, rows):
    """Give rows with a small change."""
    rows = list(rows) or [((), (), ())]
    at = maker.random.randrange(len(rows))
    path, names, whats = rows[at]
    roll = maker.random.random()
    if roll < 0.2:
        del rows[at]
    elif roll < 0.4:
        rows[at] = (path, names, tuple(what for what in whats if maker.random.random() < 0.7))
    elif roll < 0.8:
        rows[at] = (path, names, naiveruns.ordered(told, whats + (maker.pick([ENDS_N, ENDS_YES, ENDS_NO, OTHER, ENDLESS, SHOWS, ASKS]),)))
    elif names and (path, names[1:]) not in [row[:2] for row in rows]:
        rows.append((path, names[1:], whats))
    return tuple(rows)


if __name__ == "__main__":
    unittest.main()
