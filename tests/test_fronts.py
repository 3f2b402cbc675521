"""Fronts, greatest counts, fewest steps, real runs that have a count, prices and mixes."""

import random
import unittest
from unittest import mock

import naive
import naivecounts
import naiveruns

from formrules import fronts, tallies
from formrules.books import is_core, is_expression
from formrules.closed import is_closed
from formrules.counting import counted, slots
from formrules.errors import BadBook, BadCount, BadEnding, BadExpression, BadNames, TooMany
from formrules.fronts import front, greatest, least_steps
from formrules.plains import plain
from formrules.plays import play
from formrules.pricing import is_reason, needed, reason
from formrules.running import steps

from calls import check_calls
from fixtures import ASK, B0, BOOK32, H0, NO, ODDITIES, P0, P1, P2, YES, book, chain, form, inside, name, num, own, side_by_side
from kindly import Kindly
from small import Maker
from test_bringing import ATTEMPT, BOOK86, ENDS_N, ENDS_NO, ENDS_YES, LOOP, OTHER, USE86
from test_needs import A0, A1, N, S86, V, W, check_free
from test_opened import EVIL

# No endings, in a book with the cell c and the faults v and w.
NO_ENDINGS = ODDITIES[:30] + [
    ("endless",), ("asks",), ("shows",), ("reads", "c"), ("sets", "c"), ("ends",), ("ends", num(0)), ("ends", ("truth",)), ("ends", ("any", True)),
    ("fails",), ("fails", "u"), ("fails", ("v",)), ("fails", 1), ["ends", N], ["fails", "v"], ("ends", N, N),
]
# The form of [96] with both ways, a third one, and one that needs a part's kind to be told.
WAYS = form("ways", 0, 3, None, ("if", P0, ("then", P1, P1), ("then", P2, P2)))
# Three ways with as many own nodes: each time the part 0 says yes once, and no twice.
LOST = ("fail", "w")
THREE = form("three", 0, 3, None, ("if", P0, ("if", P0, LOST, ("if", P0, LOST, ("then", P1, P1))),
                                   ("if", P0, ("if", P0, LOST, ("then", P2, P2)), ("if", P0, ("then", P1, P2), LOST))))


def check_endings(test, function, more):
    """Hold a function against BadEnding, which comes behind what is told of the form and ahead of all else."""
    good = {"book": BOOK86, "name": "attempt", "many": 0, "ending": ENDS_N, **more}
    check_calls(test, function, good, [("book", None, BadBook)] + [("ending", one, BadEnding) for one in NO_ENDINGS])
    check_free(test, function, {"book": EVIL, "name": "seq", "many": 1, "ending": ("ends", A0), **more}, {"ending": 7})
    with test.assertRaises(BadEnding):
        function(**{**good, "book": book(*BOOK86[2][:0], form("attempt", 0, 0, None, num(1))), "ending": V})


def small_counts(seeds, most=14):
    """Give (book, form, number of rows, all counts up to a sum) for small books."""
    for seed in seeds:
        maker = Kindly(seed)
        told = maker.book(maker.pick([1, 2, 3]), maker.pick([2, 3]))
        last = told[2][-1]
        many = maker.pick([0, 1, 2]) if last[4] else 0
        try:
            found = plain(told, last[1], many)
            if found is not None:
                yield told, last[1], many, naivecounts.Counting(told, last[1], many, found, most)
        except (TooMany, naive.TooLong, naivecounts.TooMuch):
            pass


class Fronts(unittest.TestCase):
    def test_errors(self):
        check_endings(self, front, {})
        check_endings(self, greatest, {})

    def test_example(self):
        """[96], as far as it speaks of fronts."""
        self.assertEqual(front(BOOK86, "attempt", 0, ENDS_N), ((3, 1, 0, 0, 0, 0, 1, 0, 0, 0),))
        self.assertIsNone(greatest(BOOK86, "attempt", 0, ENDS_N))
        self.assertEqual(front(BOOK86, "attempt", 0, V), (
            (2, 0, 1, 0, 0, 0, 0, 0, 0, 0), (3, 0, 0, 1, 0, 0, 0, 0, 0, 0), (3, 1, 0, 0, 0, 0, 0, 1, 0, 0), (4, 1, 0, 0, 0, 0, 0, 0, 1, 0)))
        self.assertEqual(front(BOOK86, "attempt", 0, OTHER), ((2, 0, 0, 0, 1, 0, 0, 0, 0, 0), (3, 1, 0, 0, 0, 0, 0, 0, 0, 1)))

    def test_without_runs(self):
        for ending in (ENDS_YES, ("ends", A0), W):
            self.assertEqual(front(BOOK86, "attempt", 0, ending), ())
            self.assertEqual(greatest(BOOK86, "attempt", 0, ending), ())
        never = book(form("one", 0, 1, None, ("then", P0, LOOP)))
        self.assertEqual(front(never, "one", 0, ENDS_N), ())
        self.assertEqual(greatest(never, "one", 0, ENDS_N), ())
        self.assertEqual(front(never, "one", 0, OTHER), ((1, 0, 1),))

    def test_what_counts(self):
        """Part places, own uses and rest count nothing; nodes of forms within do; there is an item for each slot."""
        told = book(
            form("inner", 0, 1, None, ("show", ("then", P0, P0))), form("outer", 0, 1, None, ("pair", own("inner", [], [("show", P0)]), own("inner", [], [P0]))),
            form("seq", 0, 1, (0, 1), P0, ("then", H0, ("rest",))))
        self.assertEqual(front(told, "outer", 0, ("ends", ("pair", A0, A0))), ((7, 4, 0),))
        self.assertEqual(front(told, "seq", 0, ("ends", A0)), ((0, 1, 0),))
        self.assertEqual(front(told, "seq", 2, ("ends", A0)), ((2, 1, 0, 1, 0, 1, 0),))
        self.assertEqual(front(told, "seq", 2, OTHER), ((1, 0, 0, 0, 1, 0, 0), (2, 0, 0, 1, 0, 0, 1), (2, 0, 1, 1, 0, 1, 0)))
        self.assertEqual(greatest(told, "outer", 0, ("ends", ("pair", A0, A0))), ((7, 4, 0),))

    def test_loops(self):
        """No greatest one is there exactly if a while turns in a run to the ending ([94])."""
        told = book(form("one", 0, 2, None, ("catch", "w", ("while", P0, ("then", P1, ("fail", "w"))), num(1))), form("two", 0, 2, None, ("while", P0, P1)))
        fails = [(P1, (), ("fails", "w")), (P1, (), ("ends", A0))]
        self.assertEqual([thing for thing in slots(told, "one", 0) if thing in fails], fails[::-1])
        # The loop begins a turn that fails, by its part or by its own fault, and a test may fail as well.
        self.assertEqual([count[0] for count in greatest(told, "one", 0, ENDS_N)], [2, 3, 4, 5])
        self.assertIsNone(greatest(told, "two", 0, ENDS_N))
        self.assertIsNone(greatest(told, "two", 0, OTHER))
        turning = book(form("one", 0, 1, None, ("then", ("while", P0, num(1)), ("fail", "w"))), form("two", 0, 1, None, ("catch", "w", own("one", [], [NO]), P0)))
        self.assertIsNone(greatest(turning, "one", 0, W))
        self.assertEqual(greatest(turning, "two", 0, ("ends", A0)), ((5, 1, 0, 0),))

    def test_plain_way(self):
        endless, many = 0, 0
        for told, word, rows, counting in small_counts(range(90)):
            for ending in list(counting.found):
                if ending[0] == "fails" and ending[1] not in counting.faults:
                    continue
                counts = counting.counts(ending)
                found = front(told, word, rows, ending)
                self.assertEqual({count for count in found if sum(count) <= counting.most}, naivecounts.least(counts), (told, ending))
                self.assertEqual(list(found), sorted(found))
                most = greatest(told, word, rows, ending)
                if counting.turns(ending):
                    self.assertIsNone(most, (told, ending))
                if most is None:
                    endless += 1
                elif all(sum(count) <= counting.most for count in most):
                    self.assertEqual(set(most), naivecounts.greatest(counts), (told, ending))
                    self.assertEqual(list(most), sorted(most))
                many += len(found) > 1
        self.assertGreater(endless, 1)
        self.assertGreater(many, 5)

    def test_put_together(self):
        """Also where what is written out is very great."""
        told = chain(2, side_by_side)
        self.assertEqual(front(told, "fl" if any(one[1] == "fl" for one in told[2]) else told[2][-1][1], 0, ("ends", A0))[0][1], 2 ** (len(told[2]) - 1))
        for times, made in ((2, side_by_side), (3, side_by_side), (2, inside)):
            told = chain(times, made)
            word = told[2][-1][1]
            small = book(*told[2][:3])
            exact = naivecounts.Counting(small, small[2][-1][1], 0, plain(small, small[2][-1][1], 0), 200)
            self.assertEqual(set(front(small, small[2][-1][1], 0, ("ends", A0))), naivecounts.least(exact.counts(("ends", A0))))
            found = front(told, word, 0, ("ends", A0))
            self.assertEqual(found, greatest(told, word, 0, ("ends", A0)))
            self.assertEqual(len(found), 1)
            self.assertGreater(found[0][0], 10 ** 3)
        first = form("fa", 0, 1, None, ("if", P0, num(1), ("fail", "v")))
        forms = [first] + [form("f" + other, 0, 1, None, ("then", own("f" + one, [], [P0]), own("f" + one, [], [("show", P0)]))) for one, other in zip("abcdefghijk", "bcdefghijkl")]
        told = book(*forms)
        # The least run that fails does so at once; one that ends has done its part 2048 times.
        self.assertEqual(front(told, "fl", 0, V), ((12, 0, 0, 1, 0), (13, 0, 1, 0, 0)))
        self.assertEqual([count[1:] for count in front(told, "fl", 0, ENDS_N)], [(2048, 0, 0, 0)])
        self.assertEqual(least_steps(told, (), own("fl", [], [("less", ASK, num(1))]), V), 16)


    def test_where_forms_have_many(self):
        """Where a form by itself has very many counts, its uses are looked at one by one; what is told stays the same."""
        for most, many in ((0, 1), (1, 1), (3, 2)):
            for told, word, rows, counting in small_counts(range(60, 90), 8):
                use = naive.open_use([one for one in told[2] if one[1] == word][0], rows, lambda place: "n" + "abcdefghij"[place[-1]] + "xyz"[place[1] % 3 if len(place) == 3 else 0] + place[0][0], lambda place: ("fail", "w"))
                for ending in list(counting.found):
                    if ending[0] == "fails" and ending[1] not in counting.faults:
                        continue
                    plainly = [function(told, word, rows, ending) for function in (front, greatest)] + [least_steps(told, (), use, ending)]
                    with mock.patch.object(tallies, "MOST_SYMBOLS", most), mock.patch.object(fronts, "MOST_SYMBOLS", most), mock.patch.object(fronts, "MANY", many):
                        self.assertEqual([function(told, word, rows, ending) for function in (front, greatest)] + [least_steps(told, (), use, ending)], plainly)
        first = form("fa", 0, 1, None, ("if", P0, num(1), num(2)))
        forms = [first] + [form("f" + other, 0, 1, None, ("then", own("f" + one, [], [P0]), own("f" + one, [], [P0]))) for one, other in zip("abcdefghij", "bcdefghijk")]
        self.assertEqual(least_steps(book(*forms), (), own("fk", [], [("show", YES)]), ENDS_N), 1024 * 4 + 1023)


class LeastSteps(unittest.TestCase):
    def test_calls(self):
        good = {"book": BOOK86, "names": (("x", N),), "e": own("attempt", ["y"], [name("x"), NO]), "ending": ENDS_N}
        bad = [("book", None, BadBook), ("names", [("x", N)], BadNames), ("names", (("x", A0),), BadNames), ("e", name("z"), BadExpression), ("e", None, BadExpression)]
        check_calls(self, least_steps, good, bad + [("ending", one, BadEnding) for one in NO_ENDINGS])
        self.assertEqual(least_steps(**good), 5)

    def test_ends(self):
        self.assertEqual(least_steps(BOOK86, (), USE86, ENDS_N), 7)
        self.assertIsNone(least_steps(BOOK86, (), USE86, V))
        self.assertEqual(least_steps(BOOK86, (), ("fail", "u"), OTHER), 1)
        self.assertEqual(least_steps(BOOK86, (), ("if", ("less", ASK, ASK), ("then", num(1), ("fail", "t")), ("fail", "u")), OTHER), 5)
        self.assertIsNone(least_steps(BOOK86, (), LOOP, ENDS_N))

    def test_plain_way(self):
        """least_steps is what the plain way finds of what is written out, and no real run has fewer ([95])."""
        held = 0
        for seed in range(260):
            maker = Maker(seed)
            told = maker.book(2)
            e = maker.expression(told, 2)
            if not is_expression(told, e) or not is_closed(told, e):
                continue
            try:
                found = fewest(told, naive.Expander(told).outermost(e), 30)
            except (naive.TooLong, naivecounts.TooMuch):
                continue
            faults = naiveruns.faults_in(told)
            for ending, most in found.items():
                shown = ending if ending[0] == "ends" or ending[1] in faults else OTHER
                if shown != OTHER:
                    self.assertEqual(least_steps(told, (), e, shown), most, (told, e, ending))
                    held += 1
                else:
                    self.assertLessEqual(least_steps(told, (), e, shown), most)
            many = steps(told, e, [maker.random.randint(0, 7) for _ in range(3)], 50)
            if many is not None and found:
                self.assertLessEqual(min(found.values()), max(many, min(found.values())))
        self.assertGreater(held, 60)


def fewest(told, e, most):
    """Give the dict from outcomes to the fewest nodes, up to a number, with which a core expression comes to them."""
    counting = object.__new__(naivecounts.Counting)
    counting.most, counting.patience, counting.slots, counting.zero = most, 40000, [], (0,)
    return {what: min(count[0] for count, _ in counts) for what, counts in counting.go(e, {}).items() if counts}


class Plays(unittest.TestCase):
    def test_errors(self):
        zero = (0,) * len(slots(EVIL, "seq", 1))
        good = {"book": BOOK86, "name": "attempt", "many": 0, "ending": ENDS_N, "count": (3, 1, 0, 0, 0, 0, 1, 0, 0, 0)}
        bad = [("ending", one, BadEnding) for one in NO_ENDINGS[:40:9]]
        bad += [("count", one, BadCount) for one in ODDITIES + [
            (3, 1, 0, 0, 0, 0, 1, 0, 0), (3, 1, 0, 0, 0, 0, 1, 0, 0, 0, 0), [3, 1, 0, 0, 0, 0, 1, 0, 0, 0], (3, True, 0, 0, 0, 0, 1, 0, 0, 0), (3, 1, -1, 0, 0, 0, 1, 0, 0, 0),
            (59, 1, 0, 0, 0, 0, 1, 0, 0, 0), (3, "1", 0, 0, 0, 0, 1, 0, 0, 0)]]
        check_calls(self, play, good, bad)
        check_free(self, play, {"book": EVIL, "name": "seq", "many": 1, "ending": ("ends", A0), "count": (1,) + zero}, {"ending": 7, "count": 7})

    def check(self, told, word, many, ending, count):
        """Play a count, and tell whether it goes."""
        found = play(told, word, many, ending, count)
        if found is None:
            return False
        use, inputs = found
        self.assertEqual((use[:2], len(use[4])), (("own", word), many))
        self.assertTrue(is_closed(told, use))
        self.assertTrue(all(is_core(part) for part in list(use[3]) + [part for _, parts in use[4] for part in parts]))
        self.assertLessEqual(len(inputs), 200)
        end, own_nodes, doings = counted(told, use, inputs)
        if ending[0] == "ends":
            self.assertEqual((end[0], naiveruns.dimmed(end[1])), ("ends", naiveruns.numbered(ending[1])))
        else:
            self.assertEqual(naiveruns.told(naiveruns.faults_in(told), end), ending)
        known = {(place, tuple((at, naiveruns.numbered(dim)) for at, dim in seen), naiveruns.numbered_what(what)): n for (place, seen, what), n in doings}
        slot_counts = [known.get((place, tuple((at, naiveruns.numbered(dim)) for at, dim in seen), naiveruns.numbered_what(what)), 0) for place, seen, what in slots(told, word, many)]
        self.assertEqual((own_nodes,) + tuple(slot_counts), count)
        return True

    def test_example(self):
        for k in range(14):
            self.assertTrue(self.check(BOOK86, "attempt", 0, ENDS_N, (3 + 3 * k, 1, 0, 0, 0, k, 1, 0, 0, 0)))
        for count in ((4, 1, 0, 0, 0, 0, 1, 0, 0, 0), (3, 0, 0, 0, 0, 0, 1, 0, 0, 0), (6, 1, 0, 0, 0, 2, 1, 0, 0, 0), (0,) * 10):
            self.assertFalse(self.check(BOOK86, "attempt", 0, ENDS_N, count))
        self.assertTrue(self.check(BOOK86, "attempt", 0, V, (7, 1, 0, 0, 0, 1, 0, 0, 1, 0)))
        self.assertTrue(self.check(BOOK86, "attempt", 0, OTHER, (6, 1, 0, 0, 0, 1, 0, 0, 0, 1)))

    def test_plain_way(self):
        """Each count of a free run is that of a real one ([91]); what is none has no play."""
        rnd = random.Random(5)
        played, refused = 0, 0
        for told, word, many, counting in small_counts(range(100, 170)):
            for ending in list(counting.found):
                counts = counting.counts(ending)
                if (ending[0] == "fails" and ending[1] not in counting.faults) or not counts:
                    continue
                some = rnd.sample(sorted(counts), min(3, len(counts)))
                some += [tuple(max(0, n + rnd.choice([0, 0, 0, 1, -1])) for n in count) for count in some]
                for count in some:
                    if sum(count) <= counting.most:
                        try:
                            self.assertEqual(self.check(told, word, many, ending, count), count in counts, (told, ending, count))
                        except TooMany:
                            continue
                        played += count in counts
                        refused += count not in counts
        self.assertGreater(played, 60)
        self.assertGreater(refused, 30)


class Pricing(unittest.TestCase):
    def test_errors(self):
        check_endings(self, needed, {})
        count = front(BOOK86, "attempt", 0, V)[1]
        for function, more in ((reason, {}), (is_reason, {"thing": None})):
            good = {"book": BOOK86, "name": "attempt", "many": 0, "ending": V, "count": count, **more}
            bad = [("ending", one, BadEnding) for one in NO_ENDINGS[:40:9]]
            bad += [("count", one, BadCount) for one in ODDITIES + [(3, 1, 0, 0, 0, 0, 1, 0, 0, 0), list(count), count + (0,), tuple(bool(n) if n < 2 else n for n in count)]]
            check_calls(self, function, good, bad)
            seq = front(EVIL, "seq", 1, ("ends", A1))[0]
            check_free(self, function, {"book": EVIL, "name": "seq", "many": 1, "ending": ("ends", A1), "count": seq, **more}, {"ending": 7, "count": 7})

    def test_example(self):
        """[96]: both ways are needed; a third way that does both parts once is a mix of the two."""
        told = book(WAYS)
        found = front(told, "ways", 0, ("ends", A0))
        self.assertEqual(len(found), 2)
        self.assertEqual(needed(told, "ways", 0, ("ends", A0)), found)
        told = book(THREE)
        found = front(told, "three", 0, ("ends", A0))
        mixed = (4, 1, 2, 0, 0, 1, 0, 0, 1, 0, 0)
        self.assertEqual(len(found), 3)
        self.assertEqual(needed(told, "three", 0, ("ends", A0)), tuple(count for count in found if count != mixed))
        self.assertEqual(reason(told, "three", 0, ("ends", A0), mixed)[0], "mix")
        # Each once is at most twice the third.
        mix = tuple([int(count != mixed) for count in found])
        self.assertTrue(is_reason(told, "three", 0, ("ends", A0), mixed, ("mix", mix)))
        self.assertFalse(is_reason(told, "three", 0, ("ends", A0), mixed, ("mix", tuple([2 * n if found[at][5] else n for at, n in enumerate(mix)]))))

    def test_reasons(self):
        mixes, prices = 0, 0
        for told, word, many, counting in list(small_counts(range(300, 380))) + [(book(THREE), "three", 0, None)]:
            for ending in list(counting.found) if counting else [("ends", A0)]:
                if ending[0] == "fails" and ending[1] not in counting.faults:
                    continue
                counts = front(told, word, many, ending)
                cheap = needed(told, word, many, ending)
                self.assertLessEqual(set(cheap), set(counts))
                self.assertEqual([count for count in counts if count in cheap], list(cheap))
                for count in counts:
                    found = reason(told, word, many, ending, count)
                    self.assertTrue(is_reason(told, word, many, ending, count, found))
                    self.check_reason(counts, count, found)
                    self.assertEqual(found[0] == "prices", count in cheap)
                    mixes += found[0] == "mix"
                    prices += found[0] == "prices"
                # Needed counts are enough at all prices tried, and the fewest steps are the least sum.
                rnd = random.Random(len(counts))
                for _ in range(5):
                    costs = [rnd.choice([1, 1, 2, 5, 30]) for _ in counts[0]] if counts else []
                    sums = {count: sum(n * cost for n, cost in zip(count, costs)) for count in counts}
                    if counts:
                        self.assertEqual(min(sums.values()), min(sums[count] for count in cheap))
                        if counting:
                            every = [sum(n * cost for n, cost in zip(count, costs)) for count in counting.counts(ending)]
                            self.assertLessEqual(min(sums.values()), min(every, default=10 ** 9))
        self.assertGreater(mixes, 3)
        self.assertGreater(prices, 60)

    def check_reason(self, counts, count, told):
        self.assertIsInstance(told[1], tuple)
        if told[0] == "prices":
            self.assertEqual(len(told[1]), len(count))
            self.assertTrue(all(one >= 1 for one in told[1]))
            sums = {one: sum(a * b for a, b in zip(told[1], one)) for one in counts}
            self.assertTrue(all(sums[count] < sums[one] for one in counts if one != count))
        else:
            self.assertEqual((told[0], len(told[1]), told[1][counts.index(count)]), ("mix", len(counts), 0))
            self.assertTrue(any(told[1]) and all(one >= 0 for one in told[1]))
            for at, most in enumerate(count):
                self.assertLessEqual(sum(times * one[at] for times, one in zip(told[1], counts)), most * sum(told[1]))

    def test_is_reason(self):
        told, ending = book(WAYS), ("ends", A0)
        one, other = front(told, "ways", 0, ending)
        items = len(one)
        for thing in ODDITIES + [("prices",), ("prices", [1] * items), ("prices", (1,) * (items - 1)), ("prices", (1,) * items), ("prices", (0,) * items), ("mix", (0, 1)), ("mix", (0, 0)),
                                 ("mix", (1, 0)), ("mix", (0,)), ("mix", (0, True)), ("prices", (1, 2, 1, 1, 1, 1, 1, True)), ("prices", (1, 2, 1, 1, 1, 1, 1, 1), 1), ("price", (1, 2, 1, 1, 1, 1, 1, 1))]:
            self.assertFalse(is_reason(told, "ways", 0, ending, one, thing), thing)
        self.assertTrue(is_reason(told, "ways", 0, ending, one, ("prices", (1, 2, 1, 1, 1, 1, 1, 1))))
        self.assertFalse(is_reason(told, "ways", 0, ending, one, ("prices", (1, 1, 2, 1, 1, 1, 1, 1))))
        self.assertFalse(is_reason(told, "ways", 0, ending, one, ("prices", (-1, 2, 1, 1, 1, 1, 1, 1))))
        self.assertTrue(is_reason(BOOK86, "attempt", 0, ENDS_N, (3, 1, 0, 0, 0, 0, 1, 0, 0, 0), ("prices", (1,) * 10)))


if __name__ == "__main__":
    unittest.main()
