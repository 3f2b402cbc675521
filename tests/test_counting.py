"""Slots, and counts of real runs."""

import unittest

import naive
import naiveruns

from formrules.bringing import brings
from formrules.closed import is_closed
from formrules.counting import counted, slots
from formrules.errors import BadBook, BadExpression, BadInputs, BadUse, TooMany
from formrules.kinds import kind_of
from formrules.running import run, steps
from formrules.sights import sights
from formrules.thinglots import things

from calls import check_calls
from fixtures import ASK, B0, B1, H0, MIXED, NO, ODDITIES, P0, P1, P2, R0, YES, book, form, name, num, own, sized
from kindly import Kindly
from test_bringing import BOOK86, ENDS_N, ENDS_NO, ENDS_YES, LOOP, OTHER, USE86
from test_needs import A0, N, S86, V, W, check_free
from test_opened import EVIL


class Slots(unittest.TestCase):
    def test_errors(self):
        check_free(self, slots, {"book": EVIL, "name": "seq", "many": 1}, {})

    def test_example(self):
        """[96], as far as it speaks of slots."""
        found = [(P0, (), what) for what in (ENDS_N, V, W, OTHER)] + [(P1, S86, what) for what in (ENDS_YES, ENDS_NO, V, W, OTHER)]
        self.assertEqual(slots(BOOK86, "attempt", 0), tuple(found))

    def test_outcomes_among_things(self):
        for word in ("odd", "twice", "seq", "double", "swap"):
            for many in (0, 1, 2) if word == "seq" else (0,):
                self.assertEqual(slots(MIXED, word, many), tuple(one for one in things(MIXED, word, many) if one[2][0] in ("ends", "fails")))


class Counted(unittest.TestCase):
    def test_calls(self):
        good = {"book": BOOK86, "use": USE86, "inputs": [1, 0]}
        bad = [("book", None, BadBook)] + [("use", one, BadExpression) for one in ODDITIES if one != ASK]
        bad += [("use", one, BadUse) for one in (ASK, num(1), ("show", USE86), own("attempt", ["x"], [name("x"), NO]), own("attempt", ["x"], [num(1), ("less", name("y"), num(1))]))]
        bad += [("inputs", one, BadInputs) for one in (None, 1, "1", [8], [-1], [True], ["1"], [1, None], {1: 1})]
        check_calls(self, counted, good, bad)
        self.assertEqual(counted(BOOK86, USE86, (1, 0)), counted(**good))

    def test_too_many(self):
        told = book(form("one", 0, 2, None, ("then", P0, num(0))))
        # Ahead of it come the errors of all parameters; a part without a copy does not count.
        self.assertEqual(counted(told, own("one", [], [sized(398), num(1)]), [])[1], 2)
        great = book(form("fa", 0, 1, None, ("then", P0, P0)), *[form("f" + other, 0, 1, None, own("f" + one, [], [own("f" + one, [], [P0])])) for one, other in zip("abc", "bcd")], form("drop", 0, 2, None, P0))
        use = own("fd", [], [sized(20)])
        with self.assertRaises(TooMany) as caught:
            counted(great, use, [])
        self.assertEqual(caught.exception.most, 1000)
        with self.assertRaises(BadInputs):
            counted(great, use, [9])
        self.assertEqual(counted(great, own("drop", [], [num(1), use]), []), (("ends", num(1)), 0, (((P0, (), ENDS_N), 1),)))

    def test_example(self):
        """A run of attempt of [86] that ends, with k turns, has the own count 3 + 3k ([96])."""
        ends, yes, no = (P0, (), ENDS_N), (P1, S86, ENDS_YES), (P1, S86, ENDS_NO)
        use = own("attempt", ["x"], [ASK, ("less", ASK, num(1))])
        for k in range(6):
            doings = ((ends, 1), (yes, k), (no, 1)) if k else ((ends, 1), (no, 1))
            self.assertEqual(counted(BOOK86, use, [5] + [0] * k + [1]), (("ends", num(0)), 3 + 3 * k, doings))
        # The part of [86] reads the cell.
        self.assertEqual(counted(BOOK86, USE86, [3]), (("ends", num(0)), 6, ((ends, 1), (yes, 1), (no, 1))))
        self.assertEqual(counted(BOOK86, USE86, [0]), (("ends", num(0)), 3, ((ends, 1), (no, 1))))
        self.assertEqual(counted(BOOK86, own("attempt", ["x"], [("fail", "w"), NO]), []), (V, 3, (((P0, (), W), 1),)))
        self.assertEqual(counted(BOOK86, own("attempt", ["x"], [("fail", "u"), NO]), []), (("fails", "u"), 2, (((P0, (), OTHER), 1),)))
        self.assertEqual(counted(BOOK86, own("attempt", ["x"], [num(1), ("fail", "v")]), []), (V, 3, ((ends, 1), ((P1, S86, V), 1))))

    def test_ends(self):
        use = own("attempt", ["x"], [ASK, ("less", ASK, num(1))])
        # A run that waits, or is stuck, has an end; one that never ends has none, though it shows.
        self.assertEqual(counted(BOOK86, use, []), (("waits",), 2, ()))
        self.assertEqual(counted(BOOK86, use, [1]), (("waits",), 3, (((P0, (), ENDS_N), 1),)))
        self.assertEqual(counted(BOOK86, own("attempt", ["x"], [num(1), num(1)]), []), (("stuck",), 3, (((P0, (), ENDS_N), 1), ((P1, S86, ENDS_N), 1))))
        self.assertEqual(counted(BOOK86, own("attempt", ["x"], [("first", num(1)), NO]), []), (("stuck",), 2, ()))
        self.assertIsNone(counted(BOOK86, own("attempt", ["x"], [num(1), YES]), []))
        self.assertIsNone(counted(BOOK86, own("attempt", ["x"], [LOOP, YES]), []))
        shows = book(form("one", 0, 1, None, ("while", P0, ("show", num(1)))))
        self.assertIsNone(counted(shows, own("one", [], [YES]), []))
        self.assertEqual(counted(shows, own("one", [], [("less", ASK, num(1))]), [0] * 199 + [1])[:2], (("ends", num(0)), 1 + 199 * 3))
        self.assertEqual(counted(shows, own("one", [], [("show", ("less", ASK, num(1)))]), [0] * 5)[0], ("waits",))
        # There is no bound of events.
        count = ("less", ("set", "c", ("plus", ("get", "c"), num(1))), num(7))
        both = ("if", count, YES, ("less", ("set", "d", ("plus", ("get", "d"), num(1))), num(7)))
        shows = book(form("one", 0, 2, None, ("while", P0, ("then", ("show", P1), ("while", ("if", P0, NO, NO), P1)))), cells=("c", "d", "e"))
        end, own_nodes, doings = counted(shows, own("one", [], [both, num(1)]), [])
        self.assertEqual(end, ("ends", num(0)))
        third = ("if", both, YES, ("less", ("set", "e", ("plus", ("get", "e"), num(1))), num(7)))
        plainly = book(form("one", 0, 1, None, ("while", P0, ("show", num(1)))), cells=("c", "d", "e"))
        end, own_nodes, doings = counted(plainly, own("one", [], [third]), [])
        turns = doings[0][1]
        self.assertGreater(turns, 200)
        self.assertEqual((end, own_nodes, doings), (("ends", num(0)), 1 + 3 * turns, (((P0, (), ENDS_YES), turns), ((P0, (), ENDS_NO), 1))))

    def test_what_counts(self):
        """Part places, own uses and rest count nothing, nodes of the rules of forms within do."""
        told = book(
            form("inner", 0, 1, None, ("show", ("then", P0, P0))), form("outer", 0, 1, None, ("pair", own("inner", [], [("show", P0)]), own("inner", [], [P0]))),
            form("seq", 0, 1, (0, 1), P0, ("then", H0, ("rest",))))
        self.assertEqual(counted(told, own("outer", [], [ASK]), [1, 2, 3, 4]), (("ends", ("pair", num(2), num(4))), 7, (((P0, (), ENDS_N), 4),)))
        self.assertEqual(counted(told, own("seq", [], [("plus", num(1), num(2))], [((), [YES]), ((), [own("inner", [], [NO])])]), []), (
            ("ends", num(3)), 2, (((P0, (), ENDS_N), 1), ((("here", 0, 0), (), ENDS_YES), 1), ((("here", 1, 0), (), ENDS_NO), 1))))

    def test_what_is_seen(self):
        # Seen is what all copies see, with the worths made dim, in the order of [81].
        told = book(form("one", 2, 2, None, ("pair", ("let", B1, P1, ("let", B0, num(3), P0)), ("let", B1, ("pair", P1, NO), P0))))
        use = own("one", ["x", "y"], [("pair", name("y"), num(1)), ASK])
        self.assertEqual(counted(told, use, [1, 2])[2], (
            ((P0, ((B1, N),), ("ends", ("pair", N, N))), 1), ((P0, ((B1, ("pair", N, NO)),), ("ends", ("pair", ("pair", N, NO), N))), 1), ((P1, (), ENDS_N), 2)))
        # No plain scheme is needed, and no kind.
        use = own("f", ["x"], [YES, ("pair", name("x"), num(1))])
        self.assertEqual(counted(EVIL, use, [])[2], (((P0, (), ENDS_YES), 1), ((P1, S86, ("ends", ("pair", N, N))), 1)))
        odd = own("odd", ["x"], [("show", NO)])
        self.assertEqual(counted(MIXED, odd, []), (("ends", NO), 3, (((P0, (), ENDS_NO), 2),)))
        rows = own("seq", [], [name("x")], [(["abcdefgh"[k]], [num(k % 8)]) for k in range(7)] + [("x", [ASK])])
        self.assertEqual(counted(MIXED, rows, [6])[0], ("ends", num(6)))

    def test_parts_of_forms(self):
        # Parts may be expressions of the book; what they are written out to is no rule of the use.
        part = own("twice", ["x"], [num(1), ("show", name("x"))])
        self.assertEqual(counted(MIXED, own("double", [], [part]), []), (("ends", ("pair", num(1), num(1))), 1, (((P0, (), ENDS_N), 2),)))
        # A name of the use is seen through the part's own uses, but for names of these.
        use = own("twice", ["x"], [num(1), own("twice", ["x"], [("pair", name("x"), YES), name("x")])])
        self.assertEqual(counted(MIXED, use, [])[0], ("ends", ("pair", num(1), YES)))

    def test_faults_in_parts(self):
        told = book(form("one", 0, 2, None, ("catch", "w", ("pair", P0, P1), P0)))
        use = own("one", [], [("catch", "w", ("then", ("show", num(1)), ("fail", "w")), NO), ("if", ("less", ASK, num(4)), ("fail", "w"), ("fail", "v"))])
        self.assertEqual(counted(told, use, [1]), (("ends", NO), 2, (((P0, (), ENDS_NO), 2), ((P1, (), W), 1))))
        self.assertEqual(counted(told, use, [5]), (V, 2, (((P0, (), ENDS_NO), 1), ((P1, (), OTHER), 1))))

    def test_small_books(self):
        """Counts are those of a plain run; steps of the run is own and what the parts' nodes come to."""
        tried = 0
        for seed in range(120):
            maker = Kindly(seed, cells=[(), ("c",), ("c", "d")][seed % 3])
            told = maker.book(3)
            maker.told, maker.binding, maker.leaves = told, {"r": None, "s": None}, {}
            word = told[2][-1][1]
            use = maker.use(maker.forms[word][5], 3, {})
            if use is None or not is_closed(told, use):
                continue
            inputs = [maker.random.randint(0, 7) for _ in range(8)]
            try:
                found = counted(told, use, inputs)
                watch = naiveruns.Watch(told, use, inputs)
            except (TooMany, naive.TooLong):
                continue
            end, own_nodes, doings = watch.watched()
            if found is None:
                self.assertIsNone(end)
                continue
            tried += 1
            order = [one for one, _ in found[2]]
            self.assertEqual((found[:2], dict(found[2])), ((end, own_nodes), doings))
            self.assertEqual(order, sorted(order, key=lambda one: thing_key(told, one)))
            if run(told, use, inputs, 200)[1] != ("more",):
                self.assertEqual(run(told, use, inputs, 200)[1], end)
                self.assertEqual(steps(told, use, inputs, 200), watch.steps)
                self.assertEqual(found[1] + sum(watch.inner), watch.steps)
        self.assertGreater(tried, 60)


def thing_key(told, thing):
    place, seen, what = thing
    return (len(place), place[1:]), [naiveruns.dim_key(dim) for _, dim in seen], naiveruns.what_key(told, what)


if __name__ == "__main__":
    unittest.main()
