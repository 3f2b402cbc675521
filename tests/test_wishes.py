"""Wishes, alike lines, deeds, stories, and weakest promises."""

import itertools
import random
import unittest

import naive
import naivestories

from formrules.deeds import is_deed, is_story, story
from formrules.editions import fares
from formrules.errors import (
    BadBook, BadCells, BadDeeds, BadForm, BadKinds, BadLine, BadMany, BadWish, NoPlain, TooMany,
)
from formrules.plains import plain
from formrules.promises import promise_for, still, weakest
from formrules.wishes import first_line, first_lines, is_wish

from calls import check_calls
from fixtures import ASK, B0, H0, NO, ODDITIES, P0, P1, R0, YES, book, form, name, num, own
from kindly import Kindly
from test_editions import remembering
from test_opened import EVIL, GREAT

ENDS, SAYS_YES, SAYS_NO, V, W = ("ends",), ("yes",), ("no",), ("fails", "v"), ("fails", "w")
# The form and the wish of [107].
KNOCK = form("knock", 0, 1, None, ("while", P0, ("show", num(1))))
BOOK107 = book(KNOCK)
STAY = (0, 0, 0, 0, 0, 0, 0, 0)
ODD_ONES = ((0, 1, 0, 0, 0, 0, 0, 0), (1, 0, 1, 1, 1, 1, 1, 1))
WISH107 = ("wish", ODD_ONES, ((ENDS, (0,)),))
ANY = ("wish", (STAY,), tuple((one, (0,)) for one in (ENDS, SAYS_YES, SAYS_NO, V, W)))
NONE = ("wish", (STAY,), ())


def deed(place, outcome, *line):
    return place, outcome, line


def counting(stations):
    """Give the stations of a wish that counts ones up to a number, and then no further."""
    return tuple(tuple(min(k + (n == 1), stations - 1) for n in range(8)) for k in range(stations))


def some_wish(rnd):
    """Make a wish in which numbers from 2 on mean the same."""
    many = rnd.choice([1, 2, 2, 3])
    stations = tuple(tuple([rnd.randrange(many), rnd.randrange(many)] + [rnd.randrange(many)] * 6) for _ in range(many))
    outcomes = rnd.sample([ENDS, SAYS_YES, SAYS_NO, V, W], rnd.choice([2, 3, 4, 5]))
    return ("wish", stations, tuple((one, tuple(sorted(rnd.sample(range(many), rnd.randint(many - 1, many))))) for one in outcomes))


class Wishes(unittest.TestCase):
    def test_is_wish(self):
        for thing in (WISH107, ANY, NONE, ("wish", (STAY,) * 5, ((V, ()), (("fails", "u"), (0, 1, 4))))):
            self.assertTrue(is_wish(thing), thing)
        bad = ODDITIES + [
            ("wish",), ("wish", (STAY,)), ("wish", (STAY,), (), ()), ["wish", (STAY,), ()], ("wish", [STAY], ()), ("wish", (), ()), ("wish", (STAY,) * 6, ()), ("wish", (STAY[:7],), ()),
            ("wish", (STAY + (0,),), ()), ("wish", (list(STAY),), ()), ("wish", ((0, 0, 0, 0, 0, 0, 0, 1),), ()), ("wish", ((0, 0, 0, 0, 0, 0, 0, -1),), ()), ("wish", ((False,) * 8,), ()),
            ("wish", (STAY,), [(ENDS, (0,))]), ("wish", (STAY,), ((ENDS, (0,)), (ENDS, ()))), ("wish", (STAY,), ((ENDS, (1,)),)), ("wish", (STAY,), ((ENDS, [0]),)), ("wish", (STAY,), ((ENDS, (False,)),)),
            ("wish", (STAY,), ((ENDS, (0, 0)),)), ("wish", (STAY, STAY), ((ENDS, (1, 0)),)), ("wish", (STAY,), ((ENDS,),)), ("wish", (STAY,), ((ENDS, (0,), 1),)), ("wish", (STAY,), ([ENDS, (0,)],)),
            ("wish", (STAY,), ((("maybe",), (0,)),)), ("wish", (STAY,), ((("fails",), (0,)),)), ("wish", (STAY,), ((("fails", "if"), (0,)),)), ("wish", (STAY,), ((("fails", None), (0,)),)),
            ("wish", (STAY,), ((("ends", 1), (0,)),)), ("wish", (STAY,), (("ends", (0,)),)), ("wish", (STAY,), ((["ends"], (0,)),)), ("wish", (STAY,), 7), ("wish", 7, ()),
        ]
        for thing in bad:
            self.assertFalse(is_wish(thing), thing)

    def test_lines_calls(self):
        bad = [("wish", one, BadWish) for one in (None, 1, ("wish", (), ()), list(WISH107))]
        check_calls(self, first_lines, {"wish": WISH107}, bad)
        lines = [("line", one, BadLine) for one in (None, 1, "1", [1], (8,), (-1,), (True,), ("1",), (1, None), ((1,),))]
        check_calls(self, first_line, {"wish": WISH107, "line": (1, 2)}, bad + lines)

    def test_example(self):
        self.assertEqual(first_lines(WISH107), ((), (1,)))
        for line, first in (((), ()), ((1,), (1,)), ((1, 1), ()), ((0, 7, 1, 3), (1,)), ((5,), ())):
            self.assertEqual(first_line(WISH107, line), first)

    def test_order(self):
        """Shorter ones first, then the lesser one; the first one is the shortest, of these the least."""
        wish = ("wish", counting(4), ((ENDS, (2,)),))
        self.assertEqual(first_lines(wish), ((), (1,), (1, 1), (1, 1, 1)))
        last = ("wish", ((1, 2, 0, 0, 0, 0, 0, 0), (1, 1, 1, 1, 1, 1, 1, 1), (2, 2, 2, 2, 2, 2, 2, 2)), ((ENDS, (1,)), (V, (0, 2))))
        self.assertEqual(first_lines(last), ((), (0,), (1,)))
        self.assertEqual(first_line(last, (2, 3, 1, 0)), (1,))

    def test_what_no_line_tells_apart(self):
        # A station to which no line leads, and stations that let the same behind all lines, tell nothing.
        wish = ("wish", (STAY, (0, 1, 1, 1, 1, 1, 1, 1)), ((ENDS, (0,)),))
        self.assertEqual(first_lines(wish), ((),))
        twins = ("wish", ((1, 0, 0, 0, 0, 0, 0, 0), (0, 1, 1, 1, 1, 1, 1, 1)), ((ENDS, (0, 1)), (V, ())))
        self.assertEqual(first_lines(twins), ((),))
        self.assertEqual(first_lines(NONE), ((),))

    def test_too_many(self):
        turn = tuple(tuple((k + 1) % 5 if n == 0 else {0: 1, 1: 0}.get(k, k) if n == 1 else k for n in range(8)) for k in range(5))
        wish = ("wish", turn, ((ENDS, (0,)),))
        for function, more in ((first_lines, ()), (first_line, ((),))):
            with self.assertRaises(TooMany) as caught:
                function(wish, *more)
            self.assertEqual(caught.exception.most, 30)
        with self.assertRaises(BadLine):
            first_line(wish, [0])

    def test_alike(self):
        """Alike lines lead to the same ends behind all short lines ([101])."""
        rnd = random.Random(7)
        short = [line for many in range(3) for line in itertools.product((0, 1, 2), repeat=many)]
        for _ in range(40):
            wish = some_wish(rnd)
            try:
                found = first_lines(wish)
            except TooMany:
                continue
            letting = {line: tuple(lets(wish, x + line + y) for x in short for y in short) for line in short}
            firsts = {}
            for line in sorted(short, key=lambda line: (len(line), line)):
                firsts.setdefault(letting[line], line)
            for line in short:
                self.assertEqual(first_line(wish, line), firsts[letting[line]])
            self.assertEqual([line for line in found if len(line) < 3 and set(line) <= {0, 1, 2}], sorted(firsts.values(), key=lambda line: (len(line), line)))
            self.assertEqual(len({first_line(wish, line) for line in found}), len(found))


def lets(wish, line):
    station = 0
    for one in line:
        station = wish[1][station][one]
    return tuple(station in good for _, good in wish[2])


def check_wished(test, function, more, wrong):
    """Hold a function against the errors of is_deed, in their order."""
    rows = form("rows", 0, 1, (0, 1), P0, ("then", H0, ("rest",)))
    told = book(*EVIL[2], rows, form("much", 0, 4, None, remembering()), cells=("c",))
    good = {"book": told, "name": "rows", "many": 1, "wish": ANY, **more}
    bad = [("book", None, BadBook)] + [("name", one, BadForm) for one in ("none", None, 1)] + [("many", one, BadMany) for one in (9, -1, True)]
    bad += [("wish", one, BadWish) for one in (None, 1, ("wish", (), ()))]
    check_calls(test, function, good, bad)
    for change, error, most in (
        ({"name": "f", "many": 0}, NoPlain, None), ({"name": "f", "many": 0, "wish": 1}, NoPlain, None), ({"many": 4, "wish": 1}, BadWish, None), ({"name": "great", "many": 0, "wish": 1}, BadWish, None),
        ({"many": 4}, TooMany, 3), ({"name": "great", "many": 0}, TooMany, 100), ({"name": "much", "many": 0}, TooMany, 200), ({"name": "f", "many": 1}, BadMany, None),
    ):
        with test.assertRaises(error) as caught:
            function(**{**good, **change})
        if most:
            test.assertEqual(caught.exception.most, most)
    if wrong:
        for change, error in (({"many": 4}, BadDeeds), ({"name": "f", "many": 0}, NoPlain), ({"name": "great", "many": 0}, BadDeeds), ({"name": "much", "many": 0}, BadDeeds), ({"wish": 1}, BadWish)):
            with test.assertRaises(error):
                function(**{**good, **change, "deeds": 7})


NO_DEEDS = [None, 7, {}, [None], [1], [deed(P0, ENDS)], [deed(P0, SAYS_YES, 8)], [deed(P0, SAYS_YES, True)], [(P0, SAYS_YES)], [[P0, SAYS_YES, ()]], [(P0, SAYS_YES, [])],
            [deed(("part", 1), SAYS_YES)], [deed(("part", True), SAYS_YES)], [deed(["part", 0], SAYS_YES)], [deed(P0, V)], [deed(P0, "yes")], [deed(P0, ["yes"])]]


class Deeds(unittest.TestCase):
    def test_errors(self):
        check_wished(self, is_deed, {"thing": None}, False)

    def test_is_deed(self):
        told = book(form("one", 0, 4, (0, 1), ("if", P0, ("pair", P1, ("set", "c", ("part", 2))), ("fail", "u")), ("then", H0, ("rest",))), cells=("c",))
        wish = ("wish", (STAY,), ((ENDS, ()), (V, (0,))))
        here = ("here", 0, 0)
        for place in (P1, ("part", 2), ("part", 3), here):
            for outcome in (ENDS, V):
                self.assertTrue(is_deed(told, "one", 1, wish, deed(place, outcome, 1, 2)))
            for outcome in (SAYS_YES, SAYS_NO, W, ("fails", "u"), ("fails",), ("ends", 1), "ends"):
                self.assertFalse(is_deed(told, "one", 1, wish, deed(place, outcome)))
        for outcome in (SAYS_YES, SAYS_NO, V):
            # A line of any length.
            self.assertTrue(is_deed(told, "one", 0, wish, deed(P0, outcome, *[7] * 100)))
        self.assertFalse(is_deed(told, "one", 0, wish, deed(P0, ENDS)))
        self.assertFalse(is_deed(told, "one", 0, wish, deed(here, ENDS)))
        for thing in ODDITIES + [one[0] for one in NO_DEEDS if isinstance(one, list)]:
            self.assertFalse(is_deed(BOOK107, "knock", 0, WISH107, thing), thing)

    def test_stories_errors(self):
        check_wished(self, story, {"deeds": []}, True)
        check_wished(self, is_story, {"deeds": [], "thing": None}, True)
        for function, more in ((story, {}), (is_story, {"thing": None})):
            good = {"book": BOOK107, "name": "knock", "many": 0, "wish": WISH107, "deeds": [deed(P0, SAYS_NO)], **more}
            check_calls(self, function, good, [("wish", None, BadWish)] + [("deeds", one, BadDeeds) for one in NO_DEEDS])
            self.assertEqual(function(**{**good, "deeds": (deed(P0, SAYS_NO),)}), function(**good))

    def test_example(self):
        """[107] tells when it keeps the wish."""
        yes, yes_one, no, no_one = (deed(P0, outcome, *line) for outcome in (SAYS_YES, SAYS_NO) for line in ((), (1,)))
        for deeds in ([], [yes], [yes_one], [yes, yes_one], [no], [yes_one, no]):
            self.assertIsNone(story(BOOK107, "knock", 0, WISH107, deeds))
        # Without a ("no",) it never ends; with ("no",) and the line (1,) it ends at once with one 1.
        self.assertEqual(story(BOOK107, "knock", 0, WISH107, [no_one]), ((), (("done", no_one, None, ()),)))
        self.assertEqual(story(BOOK107, "knock", 0, WISH107, [yes, no]), ((), (("done", yes, None, ()), ("done", no, None, ()))))
        self.assertEqual(len(story(BOOK107, "knock", 0, WISH107, [yes, yes_one, no])[1]), 2)

    def test_what_comes(self):
        """Cells, inputs and worths may be any; numbers that are shown are in the line, other worths are not."""
        shown = ("wish", counting(2), ((ENDS, (0,)), (SAYS_NO, (0,))))

        def breaks(e, *deeds, parts=1, wish=shown):
            told = book(form("one", 0, parts, None, e), cells=("c",))
            found = story(told, "one", 0, wish, deeds)
            if found is not None:
                self.assertTrue(is_story(told, "one", 0, wish, deeds, found))
            return found

        self.assertEqual(breaks(("show", ("get", "c"))), ((1,), ()))
        self.assertEqual(breaks(("show", ASK)), ((0,), (("asked", 1),)))
        self.assertEqual(breaks(("show", num(1))), ((0,), ()))
        self.assertIsNone(breaks(("show", num(2))))
        self.assertIsNone(breaks(("show", ("pair", num(1), num(1)))))
        self.assertIsNone(breaks(("then", ("show", YES), num(1))))
        # An outcome that goods does not name is never let.
        self.assertEqual(breaks(YES), ((0,), ()))
        self.assertEqual(breaks(("fail", "w")), ((0,), ()))
        self.assertIsNone(breaks(NO))
        self.assertIsNone(breaks(("while", YES, ("show", num(1)))))
        ends = deed(P0, ENDS)
        self.assertIsNone(breaks(("show", P0)))
        # An unknown kind is taken as a number.
        self.assertEqual(breaks(("show", P0), ends), ((0,), (("done", ends, num(1), (0,)),)))
        self.assertEqual(breaks(("then", P0, ("show", ("get", "c"))), ends), ((0,), (("done", ends, num(0), (1,)),)))
        self.assertIsNone(breaks(("then", P0, ("show", ("set", "c", num(2)))), ends))
        self.assertEqual(breaks(("then", ("first", P0), ("show", ("second", P0))), ends)[1], (("done", ends, ("pair", num(0), num(0)), (0,)), ("done", ends, ("pair", num(0), num(1)), (0,))))
        failing = ("wish", counting(2), ((ENDS, (0,)), (W, (1,))))
        fails = deed(P0, W, 1)
        self.assertIsNone(breaks(P0, fails, wish=failing))
        self.assertEqual(breaks(("then", ("show", num(1)), P0), deed(P0, W), ends, wish=failing), ((0,), (("done", ends, num(0), (0,)),)))
        self.assertEqual(breaks(("catch", "w", P0, ("show", ("get", "c"))), fails, wish=failing), ((0,), (("done", fails, None, (0,)),)))

    def test_is_story(self):
        told = book(form("one", 0, 2, None, ("then", ASK, ("if", P0, ("show", P1), ("fail", "w")))), cells=("c",))
        wish = ("wish", counting(2), ((ENDS, (0,)), (W, ())))
        yes, no, ends, fails = deed(P0, SAYS_YES), deed(P0, SAYS_NO, 3), deed(P1, ENDS, 2), deed(P1, W)
        deeds = [yes, no, ends, fails]
        good = ((0,), (("asked", 4), ("done", yes, None, (1,)), ("done", ends, num(1), (7,))))
        for thing in (good, ((5,), (("asked", 0), ("done", no, None, (1,)))), ((5,), (("asked", 0), ("done", yes, None, (1,)), ("done", fails, None, (2,))))):
            self.assertTrue(is_story(told, "one", 0, wish, deeds, thing))
        self.assertFalse(is_story(told, "one", 0, wish, deeds[:2], good))
        _, (first, second, third) = good
        for thing in ODDITIES + [
            list(good), (good[0],), good + (1,), ([0], good[1]), ((), good[1]), ((0, 0), good[1]), ((8,), good[1]), ((True,), good[1]), ((0,), list(good[1])), ((0,), ()), ((0,), (first,)), ((0,), (first, second)),
            # Nothing is left over.
            ((0,), good[1] + (first,)), ((0,), (first, second, third, third)), ((0,), (second, first, third)), ((0,), (first, third)),
            # A run that the wish lets.
            ((0,), (first, second, ("done", ends, num(2), (7,)))),
            ((0,), (("asked", 8), second, third)), ((0,), (("asked", True), second, third)), ((0,), (("asked",), second, third)), ((0,), (["asked", 4], second, third)), ((0,), (("shown", 4), second, third)),
            ((0,), (first, ("done", yes, YES, (1,)), third)), ((0,), (first, ("done", yes, None, ()), third)), ((0,), (first, ("done", yes, None, (8,)), third)), ((0,), (first, ("done", yes, None), third)),
            ((0,), (first, ("done", deed(P0, SAYS_YES, 1), None, (1,)), third)), ((0,), (first, second, ("done", ends, None, (7,)))), ((0,), (first, second, ("done", ends, YES, (7,)))),
            ((0,), (first, second, ("done", ends, ("number", True), (7,)))), ((0,), (first, second, ("done", fails, num(1), (7,)))), ((0,), (first, second, ("done", yes, None, (7,)))), ((0,), (None, second, third)),
        ]:
            self.assertFalse(is_story(told, "one", 0, wish, deeds, thing), thing)
        # Any number of steps; a run that shows for ever has no end.
        long = ((), tuple(("done", deed(P0, SAYS_YES), None, ()) for _ in range(301)) + (("done", deed(P0, SAYS_NO), None, ()),))
        self.assertTrue(is_story(BOOK107, "knock", 0, WISH107, [deed(P0, SAYS_NO), deed(P0, SAYS_YES)], long))
        shows = book(form("one", 0, 1, None, ("then", P0, ("while", YES, ("show", num(1))))))
        self.assertFalse(is_story(shows, "one", 0, NONE, [deed(P0, ENDS)], ((), (("done", deed(P0, ENDS), num(0), ()),))))

    def test_small_books(self):
        """Stories are as short as can be, told by trying all steps; without one nothing breaks the wish."""
        told, kept = 0, 0
        for maker, rnd, a_book, word, many, wish in small_wishes(range(220)):
            try:
                naively = naivestories.Story(a_book, word, many, plain(a_book, word, many), wish)
                faults = [one for one, _ in wish[2] if one[0] == "fails"]
                every = [(place, outcome, line) for place, kind in naively.kinds.items() for outcome in ([SAYS_YES, SAYS_NO] if kind == ("truth",) else [ENDS]) + faults for line in ((), (1,), (2, 0))]
                deeds = rnd.sample(every, min(len(every), rnd.choice([0, 1, 2, 3])))
                found = story(a_book, word, many, wish, deeds)
            except (TooMany, naive.TooLong):
                continue
            fewest = naively.fewest(deeds, 3, (0, 1, 2))
            if found is None:
                kept += 1
                self.assertTrue(fewest is None or isinstance(fewest, float), (a_book, wish, deeds))
                continue
            told += 1
            self.assertIs(naively.breaks(*found), True)
            self.assertTrue(is_story(a_book, word, many, wish, deeds, found))
            self.assertTrue(all(step[1] in deeds for step in found[1] if step[0] == "done"))
            many_steps = len(found[1])
            if fewest is None or isinstance(fewest, float):
                self.assertGreater(many_steps, 3 if fewest is None else fewest - 1)
            else:
                self.assertEqual(many_steps, fewest, (a_book, wish, deeds))
        self.assertGreater(told, 60)
        self.assertGreater(kept, 40)


def small_wishes(seeds):
    """Give (maker, random numbers, book, form, number of rows, wish) for small books whose forms have plain schemes."""
    for seed in seeds:
        maker = Kindly(seed, cells=("c",) if seed % 3 else ())
        a_book = maker.book(maker.pick([1, 2]), maker.pick([2, 3, 3]))
        last = a_book[2][-1]
        many = maker.pick([0, 1]) if last[4] else 0
        try:
            if plain(a_book, last[1], many) is not None:
                rnd = random.Random(seed)
                yield maker, rnd, a_book, last[1], many, some_wish(rnd)
        except TooMany:
            pass


class Promises(unittest.TestCase):
    def test_errors(self):
        check_wished(self, weakest, {}, False)
        check_wished(self, promise_for, {"deeds": []}, True)
        good = {"book": BOOK107, "name": "knock", "many": 0, "wish": WISH107, "deeds": [deed(P0, SAYS_NO)]}
        check_calls(self, promise_for, good, [("wish", None, BadWish)] + [("deeds", one, BadDeeds) for one in NO_DEEDS])

    def test_too_many(self):
        """TooMany(30) as first_lines, TooMany(40) for more class deeds, TooMany(60) for more promises."""
        turn = tuple(tuple((k + 1) % 5 if n == 0 else {0: 1, 1: 0}.get(k, k) if n == 1 else k for n in range(8)) for k in range(5))
        wide = book(form("one", 0, 4, None, ("then", P0, ("then", P1, ("then", ("part", 2), ("part", 3))))))
        fives = ("wish", counting(5), ((ENDS, (4,)),) + tuple((("fails", w), (0,)) for w in "stu"))
        for wish, most in ((("wish", turn, ((ENDS, (0,)),)), 30), (fives, 40)):
            for function, more in ((weakest, ()), (promise_for, ([],))):
                with self.assertRaises(TooMany) as caught:
                    function(wide, "one", 0, wish, *more)
                self.assertEqual(caught.exception.most, most)
            with self.assertRaises(BadDeeds):
                promise_for(wide, "one", 0, wish, 7)
        cycle = tuple(tuple((k + (n == 1)) % 3 for n in range(8)) for k in range(3))
        found = weakest(wide, "one", 0, ("wish", cycle, ((ENDS, (0,)),)))
        # The lines of all four places add up to 0, in 27 ways, or one of the places never ends.
        self.assertEqual(len(found), 27 + 4)
        self.assertEqual(sorted(len(promise) for promise in found), [4] * 27 + [9] * 4)

    def test_more_than_60(self):
        fives = tuple(tuple((k + (n == 1)) % 5 for n in range(8)) for k in range(5))
        wide = book(form("one", 0, 4, None, ("then", P0, ("then", P1, ("then", ("part", 2), ("part", 3))))))
        with self.assertRaises(TooMany) as caught:
            weakest(wide, "one", 0, ("wish", fives, ((ENDS, (0,)),)))
        self.assertEqual(caught.exception.most, 60)

    def test_example(self):
        """[107]: never says no; or each yes shows an odd number of ones, each no an even one."""
        yes, yes_one, no = deed(P0, SAYS_YES), deed(P0, SAYS_YES, 1), deed(P0, SAYS_NO)
        found = weakest(BOOK107, "knock", 0, WISH107)
        self.assertIsInstance(found, list)
        self.assertEqual(set(found), {(yes, yes_one), (yes_one, no)})
        self.assertIsNot(weakest(BOOK107, "knock", 0, WISH107), found)
        self.assertEqual(promise_for(BOOK107, "knock", 0, WISH107, [deed(P0, SAYS_YES, 2, 1, 1), deed(P0, SAYS_YES, 1, 1, 1)]), (yes, yes_one))
        self.assertEqual(promise_for(BOOK107, "knock", 0, WISH107, (deed(P0, SAYS_NO, 1, 4, 1),)), (yes_one, no))
        self.assertIsNone(promise_for(BOOK107, "knock", 0, WISH107, [no, yes]))
        self.assertIn(promise_for(BOOK107, "knock", 0, WISH107, []), found)

    def test_broken_without_deeds(self):
        told = book(form("one", 0, 1, None, ("show", num(1))))
        self.assertEqual(weakest(told, "one", 0, ("wish", counting(2), ((ENDS, (0,)),))), [])
        self.assertIsNone(promise_for(told, "one", 0, ("wish", counting(2), ((ENDS, (0,)),)), []))
        # A place that is never done may come to anything.
        self.assertEqual(weakest(told, "one", 0, ANY), [(deed(P0, ENDS), deed(P0, V), deed(P0, W))])

    def test_order(self):
        """By place, part ahead of here; by outcome, faults by their names; then by line."""
        told = book(form("one", 0, 2, (0, 1), ("if", P0, P1, P1), ("then", ("if", H0, num(1), num(1)), ("rest",))))
        wish = ("wish", counting(3), ((W, (0,)), (V, (0, 1, 2)), (ENDS, (1, 2))))
        found = weakest(told, "one", 1, wish)
        lines = [(), (1,), (1, 1)]
        every = [deed(place, outcome, *line) for place, ends in ((P0, [SAYS_YES, SAYS_NO]), (P1, [ENDS]), (("here", 0, 0), [SAYS_YES, SAYS_NO])) for outcome in ends + [V, W] for line in lines]
        self.assertTrue(found)
        for promise in found:
            self.assertEqual([one for one in every if one in promise], list(promise))

    def test_small_books(self):
        """A lot of deeds keeps the wish exactly if one of the promises has its class deeds, otherwise a story breaks it."""
        many_promises, broken, kept = 0, 0, 0
        for maker, rnd, a_book, word, many, wish in small_wishes(range(200)):
            try:
                found = weakest(a_book, word, many, wish)
                lines = first_lines(wish)
            except TooMany:
                continue
            many_promises += len(found) > 1
            faults = sorted(one for one, _ in wish[2] if one[0] == "fails")
            every = [(place, outcome, line) for place, kind in plain(a_book, word, many)[2] for outcome in ([SAYS_YES, SAYS_NO] if kind == ("truth",) else [ENDS]) + faults for line in lines]
            self.assertEqual(story(a_book, word, many, wish, []) is None, bool(found))
            for promise in found[:3]:
                self.assertEqual([one for one in every if one in promise], list(promise))
                self.assertIsNone(story(a_book, word, many, wish, promise))
                for one in rnd.sample(every, min(4, len(every))):
                    if one not in promise:
                        self.assertIsNotNone(story(a_book, word, many, wish, promise + (one,)))
            for _ in range(4):
                some = [one for one in every if rnd.random() < rnd.choice([0.1, 0.3, 0.6])]
                # Lines of any length.
                some = [(place, outcome, line if rnd.random() < 0.5 else tuple(rnd.randrange(8) for _ in range(rnd.randint(0, 4)))) for place, outcome, line in some]
                classes = {(place, outcome, first_line(wish, line)) for place, outcome, line in some}
                keeps = any(classes <= set(promise) for promise in found)
                told = story(a_book, word, many, wish, some)
                self.assertEqual(told is None, keeps)
                chosen = promise_for(a_book, word, many, wish, some)
                self.assertEqual(chosen is not None, keeps)
                if keeps:
                    self.assertTrue(chosen in found and classes <= set(chosen))
                    kept += 1
                else:
                    self.assertTrue(is_story(a_book, word, many, wish, some, told))
                    broken += 1
        self.assertGreater(many_promises, 8)
        self.assertGreater(broken, 60)
        self.assertGreater(kept, 60)


class Still(unittest.TestCase):
    def test_errors(self):
        rows = form("rows", 0, 1, (0, 1), P0, ("then", H0, ("rest",)))
        truth = form("truth", 0, 1, None, ("if", P0, num(1), num(2)))
        other = form("truth", 0, 1, None, ("then", P0, num(2)))
        says = form("says", 0, 1, None, ("then", P0, YES))
        number = form("says", 0, 1, None, ("then", P0, num(1)))
        much = form("much", 0, 4, None, remembering())
        none, some = form("none", 0, 1, None, ("first", num(1))), form("none", 0, 1, None, P0)
        old = book(GREAT, KNOCK, rows, truth, says, much, none, form("rare", 0, 1, None, P0), cells=("c",))
        new = book(GREAT, KNOCK, rows, other, number, much, some, cells=("c",))
        good = {"old": old, "new": new, "name": "knock", "many": 0, "wish": WISH107}
        bad = [("old", None, BadBook), ("new", None, BadBook)] + [("name", one, BadForm) for one in ("gone", "rare", 1)] + [("many", one, BadMany) for one in (1, True)] + [("wish", None, BadWish)]
        check_calls(self, still, good, bad)
        for change, error, most in (
            ({"new": BOOK107, "name": 1}, BadCells, None), ({"name": "none", "wish": 1}, NoPlain, None), ({"old": new, "new": old, "name": "none"}, NoPlain, None), ({"name": "truth", "wish": 1}, BadKinds, None),
            ({"name": "says", "wish": 1}, BadKinds, None), ({"old": new, "new": old, "name": "says"}, BadKinds, None), ({"name": "rows", "many": 4, "wish": 1}, BadWish, None), ({"name": "rows", "many": 4}, TooMany, 3),
            ({"name": "great"}, TooMany, 100), ({"name": "great", "wish": 1}, BadWish, None), ({"name": "much"}, TooMany, 200),
        ):
            with self.assertRaises(error) as caught:
                still(**{**good, **change})
            if most:
                self.assertEqual(caught.exception.most, most)

    def test_ends(self):
        once = book(form("knock", 0, 1, None, ("then", ("show", num(1)), ("while", P0, ("show", num(1))))))
        self.assertIsNone(still(BOOK107, BOOK107, "knock", 0, WISH107))
        found = still(BOOK107, once, "knock", 0, WISH107)
        self.assertIn(found[0], weakest(BOOK107, "knock", 0, WISH107))
        self.assertTrue(is_story(once, "knock", 0, WISH107, found[0], found[1]))
        # By once nothing but never saying no is let, or each no shows an odd number of ones; so the other way round it is broken, too.
        self.assertIsNotNone(still(once, BOOK107, "knock", 0, WISH107))
        never = book(form("knock", 0, 1, None, ("then", ("while", P0, num(1)), ("while", YES, num(0)))))
        self.assertIsNone(still(BOOK107, never, "knock", 0, WISH107))

    def test_small_books(self):
        """still is None exactly if the promises of old are kept by new; what fares the same has the same promises."""
        held = {True: 0, False: 0}
        for seed in range(160):
            maker = Kindly(seed, cells=("c",) if seed % 2 else ())
            old = maker.book(1)
            new = maker.with_form(("book", old[1], ()), "forma", 2, like="forma") if seed % 4 else old
            rnd = random.Random(seed)
            wish = some_wish(rnd)
            try:
                found = still(old, new, "forma", 0, wish)
                promises, others = weakest(old, "forma", 0, wish), weakest(new, "forma", 0, wish)
                same = fares(old, new, "forma", 0) == ("same",)
            except (TooMany, NoPlain, BadKinds):
                continue
            kept = all(any(set(one) <= set(other) for other in others) for one in promises)
            self.assertEqual(found is None, kept)
            held[kept] += 1
            if found is not None:
                self.assertIn(found[0], promises)
                self.assertTrue(is_story(new, "forma", 0, wish, found[0], found[1]))
                self.assertFalse(is_story(old, "forma", 0, wish, found[0], found[1]))
            elif still(new, old, "forma", 0, wish) is None:
                self.assertEqual(set(promises), set(others))
            if same and plain(old, "forma", 0) == plain(new, "forma", 0):
                self.assertEqual(set(promises), set(others))
        self.assertTrue(min(held.values()) > 15, held)


if __name__ == "__main__":
    unittest.main()
