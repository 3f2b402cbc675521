"""Equations of counts, counts that span them all, and counts that break a row."""

import random
import unittest
from fractions import Fraction

from formrules.counting import slots
from formrules.errors import BadBook, BadEnding, BadRow
from formrules.fronts import front
from formrules.linear import Echelon, orthogonal
from formrules.plays import play
from formrules.spans import breaking, equations, is_spanning, spanning

from calls import check_calls
from fixtures import ASK, H0, NO, ODDITIES, P0, P1, YES, book, chain, form, inside, num, own, side_by_side
from test_bringing import BOOK86, ENDS_N, ENDS_NO, ENDS_YES, LOOP, OTHER
from test_fronts import NO_ENDINGS, check_endings, small_counts
from test_needs import A0, N, V, W, check_free
from test_opened import EVIL

ONE = (3, 1, 0, 0, 0, 0, 1, 0, 0, 0)
TWO = (6, 1, 0, 0, 0, 1, 1, 0, 0, 0)


def rank(rows):
    """Give how many rows do not come of the others, by plain fractions."""
    left = [[Fraction(one) for one in row] for row in rows]
    found = 0
    while left:
        row = left.pop()
        heads = [at for at, one in enumerate(row) if one]
        if heads:
            found += 1
            left = [[its - other[heads[0]] / row[heads[0]] * mine for its, mine in zip(other, row)] for other in left]
    return found


class Equations(unittest.TestCase):
    def test_errors(self):
        check_endings(self, equations, {})
        check_endings(self, spanning, {})

    def test_example(self):
        """[96]: besides those for the eight items that are 0 or 1, own less 3 times yes is 3."""
        units = [tuple([int(k == at) for k in range(10)]) + (int(at in (1, 6)),) for at in (1, 2, 3, 4, 6, 7, 8, 9)]
        self.assertEqual(equations(BOOK86, "attempt", 0, ENDS_N), ((1, 0, 0, 0, 0, -3, 0, 0, 0, 0, 3),) + tuple(units))

    def test_without_runs(self):
        for ending in (ENDS_YES, W):
            self.assertIsNone(equations(BOOK86, "attempt", 0, ending))
            self.assertIsNone(spanning(BOOK86, "attempt", 0, ending))
            self.assertIsNone(breaking(BOOK86, "attempt", 0, ending, (1,) * 11))
            self.assertTrue(is_spanning(BOOK86, "attempt", 0, ending, None))
            self.assertFalse(is_spanning(BOOK86, "attempt", 0, ending, ()))
        self.assertFalse(is_spanning(BOOK86, "attempt", 0, ENDS_N, None))

    def test_no_row_holds(self):
        # Each item goes its own way.
        told = book(form("one", 0, 1, None, ("catch", "w", ("while", ("if", P0, YES, YES), ("if", P0, ("while", NO, num(1)), num(2))), num(1))))
        self.assertEqual(len(equations(told, "one", 0, ENDS_N)) + len(spanning(told, "one", 0, ENDS_N)), len(slots(told, "one", 0)) + 2)

    def test_reduced(self):
        for told, word, many, counting in small_counts(range(40, 80)):
            for ending in counting.found:
                if ending[0] == "fails" and ending[1] not in counting.faults:
                    continue
                rows = equations(told, word, many, ending)
                heads = [[at for at, one in enumerate(row) if one][0] for row in rows or ()]
                self.assertEqual(heads, sorted(set(heads)))
                for row, head in zip(rows or (), heads):
                    self.assertGreater(row[head], 0)
                    self.assertTrue(all(other[head] == 0 for other in rows if other != row))
                    self.assertEqual([n for n in range(2, 60) if all(one % n == 0 for one in row)], [])
                    self.assertTrue(isinstance(row, tuple) and all(isinstance(one, int) for one in row))

    def test_plain_way(self):
        """A row holds for all runs tried exactly if it comes of the equations ([93])."""
        rnd = random.Random(1)
        whole = 0
        for told, word, many, counting in small_counts(range(160)):
            for ending in counting.found:
                counts = counting.counts(ending)
                if ending[0] == "fails" and ending[1] not in counting.faults:
                    continue
                rows = equations(told, word, many, ending)
                if rows is None:
                    self.assertEqual(counts, set())
                    continue
                for row in rows:
                    self.assertTrue(all(sum(a * b for a, b in zip(row, count)) == row[-1] for count in counts), (told, ending, row))
                found = spanning(told, word, many, ending)
                self.assertEqual(len(found), len(counting.zero) + 1 - len(rows))
                self.assertEqual(rank([(1,) + count for count in found]), len(found))
                tried = rank([(1,) + count for count in sorted(counts)])
                self.assertLessEqual(tried, len(found))
                if tried == len(found):
                    # Then the counts tried span all, and those with the least sums are among them.
                    whole += 1
                    self.assertTrue(all(count in counts for count in found))
                    self.assertTrue(is_spanning(told, word, many, ending, found))
                for _ in range(3):
                    row = tuple([rnd.choice([0, 0, 0, 1, -1, 3]) for _ in counting.zero] + [rnd.choice([0, 1, 2])])
                    if rnd.random() < 0.5 and rows:
                        row = tuple([sum(times * one for times, one in zip((2, -1), column)) for column in zip(*[rows[0], rows[-1]])])
                    broken = breaking(told, word, many, ending, row)
                    comes = rank(list(rows) + [row]) == len(rows)
                    self.assertEqual(broken is None, comes)
                    if broken is not None:
                        self.assertNotEqual(sum(a * b for a, b in zip(row, broken)), row[-1])
                        if sum(broken) <= counting.most:
                            self.assertIn(broken, counts)
        self.assertGreater(whole, 80)

    def test_great(self):
        """equations and breaking speak of all counts, whatever their sums."""
        told = chain(3, side_by_side)
        word = told[2][-1][1]
        (count,) = front(told, word, 0, ("ends", A0))
        self.assertEqual([row[-1] for row in equations(told, word, 0, ("ends", A0))], list(count))
        row = (0,) * len(count) + (1,)
        self.assertEqual(breaking(told, word, 0, ("ends", A0), row), count)
        self.assertIsNone(breaking(told, word, 0, ("ends", A0), (1,) + (0,) * (len(count) - 1) + (count[0],)))
        self.assertFalse(is_spanning(told, word, 0, ("ends", A0), (count,)))
        turning = book(form("fa", 0, 1, None, ("while", P0, num(1))), form("fb", 0, 1, None, ("then", own("fa", [], [P0]), own("fa", [], [P0]))))
        self.assertEqual(equations(turning, "fb", 0, ENDS_N), ((1, -2, 0, 0, 3), (0, 0, 1, 0, 2), (0, 0, 0, 1, 0)))


class Spanning(unittest.TestCase):
    def test_errors(self):
        good = {"book": BOOK86, "name": "attempt", "many": 0, "ending": ENDS_N, "thing": None}
        check_calls(self, is_spanning, good, [("book", None, BadBook)] + [("ending", one, BadEnding) for one in NO_ENDINGS])
        check_free(self, is_spanning, {"book": EVIL, "name": "seq", "many": 1, "ending": ("ends", A0), "thing": None}, {"ending": 7})

    def test_judging(self):
        for thing in ((ONE, TWO), (TWO, ONE), (ONE, (15, 1, 0, 0, 0, 4, 1, 0, 0, 0))):
            self.assertTrue(is_spanning(BOOK86, "attempt", 0, ENDS_N, thing))
        far = (3 + 3 * 14, 1, 0, 0, 0, 14, 1, 0, 0, 0)
        for thing in ODDITIES + [
            (ONE,), [ONE, TWO], (ONE, TWO, (9, 1, 0, 0, 0, 2, 1, 0, 0, 0)), (ONE, ONE), (ONE, list(TWO)), (ONE, TWO[:-1]), (ONE, TWO + (0,)), (ONE, (4, 1, 0, 0, 0, 0, 1, 0, 0, 0)),
            (ONE, (6, True, 0, 0, 0, 1, 1, 0, 0, 0)), (ONE, far), (ONE, None), (ONE, (7, 1, 0, 0, 0, 1, 1, 0, 0, 0)), (ONE, (6, 1, 0, 0, 0, 1, 1, -1, 0, 0)),
        ]:
            self.assertFalse(is_spanning(BOOK86, "attempt", 0, ENDS_N, thing), thing)
        # At 60 it still is one.
        self.assertTrue(is_spanning(BOOK86, "attempt", 0, ENDS_N, (ONE, (3 + 3 * 13, 1, 0, 0, 0, 13, 1, 0, 0, 0))))

    def test_counts_are_real(self):
        for count in spanning(BOOK86, "attempt", 0, V):
            self.assertIsNotNone(play(BOOK86, "attempt", 0, V, count))


class Breaking(unittest.TestCase):
    def test_errors(self):
        good = {"book": BOOK86, "name": "attempt", "many": 0, "ending": ENDS_N, "row": (1, 0, 0, 0, 0, -3, 0, 0, 0, 0, 3)}
        bad = [("ending", one, BadEnding) for one in NO_ENDINGS[:40:9]]
        bad += [("row", one, BadRow) for one in ODDITIES + [(1,) * 10, (1,) * 12, [1] * 11, (1,) * 10 + (True,), (1,) * 10 + ("1",), (1,) * 10 + (None,)]]
        check_calls(self, breaking, good, bad)
        row = (0,) * (len(slots(EVIL, "seq", 1)) + 2)
        check_free(self, breaking, {"book": EVIL, "name": "seq", "many": 1, "ending": ("ends", A0), "row": row}, {"ending": 7, "row": 7})

    def test_rows(self):
        self.assertIsNone(breaking(BOOK86, "attempt", 0, ENDS_N, (1, 0, 0, 0, 0, -3, 0, 0, 0, 0, 3)))
        self.assertIsNone(breaking(BOOK86, "attempt", 0, ENDS_N, (-2, 5, 0, 7, 0, 6, 0, 0, 0, 0, -1)))
        self.assertNotEqual(breaking(BOOK86, "attempt", 0, ENDS_N, (1, 0, 0, 0, 0, 0, 0, 0, 0, 0, 3))[5], 0)
        self.assertIn(breaking(BOOK86, "attempt", 0, ENDS_N, (0,) * 10 + (1,)), (ONE, TWO))
        self.assertIsNone(breaking(BOOK86, "attempt", 0, ENDS_N, (0,) * 11))


class Linear(unittest.TestCase):
    def test_orthogonal(self):
        rnd = random.Random(3)
        for _ in range(60):
            many = rnd.randint(1, 6)
            rows = [[rnd.choice([0, 0, 1, 2, -3, 5]) for _ in range(many)] for _ in range(rnd.randint(0, 5))]
            found = orthogonal(rows, many)
            self.assertEqual(len(found) + rank(rows), many)
            self.assertTrue(all(sum(a * b for a, b in zip(one, row)) == 0 for one in found for row in rows))
            echelon = Echelon()
            self.assertEqual(sum(echelon.takes(row) for row in rows), rank(rows))


if __name__ == "__main__":
    unittest.main()
