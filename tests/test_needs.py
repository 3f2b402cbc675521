"""Things of forms, and the least lots of these that goals need."""

import unittest

import naive
import naiveruns

from formrules.bringing import brings
from formrules.errors import BadBook, BadForm, BadGoal, BadMany, NoPlain, TooMany
from formrules.plains import plain
from formrules.thinglots import needs, things

from calls import check_calls
from fixtures import ASK, B0, B1, BOOK32, BOOK58, H0, NO, P0, P1, P2, R0, YES, book, chain, form, inside, name, num, own, side_by_side
from kindly import Kindly
from small import KINDLY, Maker
from test_bringing import ASKS, ATTEMPT, BOOK86, ENDLESS, ENDS_N, ENDS_NO, ENDS_YES, NO_WHATS, OTHER, READS, SETS, SHOWS
from test_opened import EVIL

N, T = ("number",), ("truth",)
A0, A1 = ("any", 0), ("any", 1)
S86 = ((B0, N),)
V, W = ("fails", "v"), ("fails", "w")


def check_free(test, function, good, wrong):
    """Hold a function of forms in free runs against the errors that come ahead of all others.

    good is a dict of values that are right for the form seq of EVIL with one row, wrong one of wrong values
    of its other parameters.
    """
    bad = [("book", None, BadBook)] + [("name", one, BadForm) for one in ("none", None, 1, ["seq"])]
    bad += [("many", one, BadMany) for one in (-1, 9, True, None, "1")]
    check_calls(test, function, good, bad)
    for more, error, most in (
        ({"many": 4}, TooMany, 3), ({"many": 8}, TooMany, 3), ({"name": "great", "many": 0}, TooMany, 100), ({"name": "f", "many": 0}, NoPlain, None),
        ({"name": "rests", "many": 9}, BadMany, None), ({"name": "great", "many": 1}, BadMany, None),
    ):
        for told in ({}, wrong):
            with test.assertRaises(error) as caught:
                function(**{**good, **more, **told})
            test.assertIs(caught.exception.__class__, error)
            if most is not None:
                test.assertEqual(caught.exception.most, most)


class Things(unittest.TestCase):
    def test_errors(self):
        check_free(self, things, {"book": EVIL, "name": "seq", "many": 1}, {})

    def test_example(self):
        whats = [V, W, OTHER, ENDLESS, READS, SETS, SHOWS, ASKS]
        found = [(P0, (), what) for what in [ENDS_N] + whats] + [(P1, S86, what) for what in [ENDS_YES, ENDS_NO] + whats]
        self.assertEqual(things(BOOK86, "attempt", 0), tuple(found))

    def test_order(self):
        """Places as in [60], what is seen by its worths, whats in their order."""
        told = book(
            form("one", 2, 2, None, ("let", B1, ("pair", P1, ("if", P1, P1, P1)), ("let", B0, P1, P0))),
            form("rows", 0, 1, (1, 1), P0, ("let", R0, H0, ("rest",))), cells=("d", "c"))
        found = things(told, "one", 0)
        pairs = [("pair", one, other) for one in (YES, NO) for other in (YES, NO)]
        whats = [("ends", A0), OTHER, ENDLESS, ("reads", "d"), READS, ("sets", "d"), SETS, SHOWS, ASKS]
        seen = [((B0, one), (B1, pair)) for one in (YES, NO) for pair in pairs]
        self.assertEqual(found, tuple([(P0, one, what) for one in seen for what in whats] + [(P1, (), what) for what in [ENDS_YES, ENDS_NO] + whats[1:]]))
        found = things(told, "rows", 2)
        self.assertEqual([thing[:2] for thing in found[::9]], [
            (P0, ((("row", 0, 0), ("any", 0)), (("row", 1, 0), ("any", 1)))), (("here", 0, 0), ()), (("here", 1, 0), ((("row", 0, 0), ("any", 0)),))])

    def test_where_runs_come(self):
        # A place that no free run comes to has no things, neither what is never seen there.
        told = book(form("one", 0, 2, None, ("then", P0, ("if", NO, P1, P0))), form("two", 0, 2, None, ("then", ("fail", "w"), ("pair", P0, P1))), form("three", 1, 1, None, ("let", B0, YES, P0)), form(
            "four", 0, 1, None, ("while", ("catch", "w", ("fail", "v"), P0), P0)))
        self.assertEqual({thing[0] for thing in things(told, "one", 0)}, {P0})
        self.assertEqual(things(told, "two", 0), ())
        self.assertEqual(things(told, "four", 0), ())
        self.assertEqual({thing[1] for thing in things(told, "three", 0)}, {((B0, YES),)})

    def test_what_all_copies_see(self):
        told = book(form("one", 1, 1, None, ("pair", P0, ("let", B0, YES, P0))), form("two", 2, 1, None, ("let", B0, YES, ("pair", ("let", B1, num(1), P0), P0))), form(
            "three", 1, 1, None, ("pair", ("let", B0, YES, P0), ("let", B0, NO, P0))))
        self.assertEqual({thing[1] for thing in things(told, "one", 0)}, {()})
        self.assertEqual({thing[1] for thing in things(told, "two", 0)}, {((B0, YES),)})
        self.assertEqual([thing[1] for thing in things(told, "three", 0)], [((B0, YES),)] * 5 + [((B0, NO),)] * 5)

    def test_kinds(self):
        # The worth of an unknown is itself.
        told = book(form("one", 0, 2, None, ("pair", ("if", ("first", P0), P1, P1), P1)))
        self.assertEqual(plain(told, "one", 0)[2], ((P0, ("pair", T, A0)), (P1, A1)))
        found = things(told, "one", 0)
        self.assertEqual([thing for thing in found if thing[2][0] == "ends"], [
            (P0, (), ("ends", ("pair", YES, A0))), (P0, (), ("ends", ("pair", NO, A0))), (P1, (), ("ends", A1))])


class Needs(unittest.TestCase):
    def test_errors(self):
        good = {"book": EVIL, "name": "seq", "many": 1, "goal": ENDLESS}
        check_free(self, needs, good, {"goal": None})
        check_calls(self, needs, {"book": BOOK86, "name": "attempt", "many": 0, "goal": ENDS_N}, [("name", "none", BadForm)] + [("goal", one, BadGoal) for one in NO_WHATS])

    def test_example(self):
        """[86], word for word."""
        def told(goal):
            return needs(BOOK86, "attempt", 0, goal)

        ends, yes, no = (P0, (), ENDS_N), (P1, S86, ENDS_YES), (P1, S86, ENDS_NO)
        self.assertEqual(told(SETS), (((P0, (), SETS),), (ends, yes), (ends, (P1, S86, SETS))))
        self.assertEqual(told(W), ())
        self.assertEqual(told(V), (((P0, (), V),), ((P0, (), W),), (ends, (P1, S86, V)), (ends, (P1, S86, W))))
        self.assertEqual(told(ENDLESS), (((P0, (), ENDLESS),), (ends, yes), (ends, (P1, S86, ENDLESS))))
        self.assertEqual(told(ENDS_N), ((ends, no),))
        self.assertEqual(told(OTHER), (((P0, (), OTHER),), (ends, (P1, S86, OTHER))))

    def test_by_itself_and_never(self):
        told = book(form("one", 0, 1, None, ("then", ("show", num(1)), P0)), cells=("c",))
        self.assertEqual(needs(told, "one", 0, SHOWS), ((),))
        self.assertEqual(needs(told, "one", 0, ENDS_N), ())
        self.assertEqual(needs(told, "one", 0, ("ends", A1)), ())
        self.assertEqual(needs(told, "one", 0, ("ends", A0)), (((P0, (), ("ends", A0)),),))
        self.assertEqual(needs(told, "one", 0, OTHER), (((P0, (), OTHER),),))

    def test_least_lots(self):
        # Fewer things first, then thing by thing; none lies within another one.
        told = book(form("one", 0, 3, None, ("if", P0, ("if", P1, ("fail", "w"), num(1)), ("if", P0, ("fail", "w"), ("if", P2, ("fail", "w"), num(0))))))
        self.assertEqual(needs(told, "one", 0, W), (
            ((P0, (), W),), ((P0, (), ENDS_YES), (P0, (), ENDS_NO)), ((P0, (), ENDS_YES), (P1, (), ENDS_YES)), ((P0, (), ENDS_YES), (P1, (), W)),
            ((P0, (), ENDS_NO), (P2, (), ENDS_YES)), ((P0, (), ENDS_NO), (P2, (), W))))

    def test_what_is_seen(self):
        """A thing goes with what all copies see: the same place may do unlike things by it."""
        told = book(form("one", 1, 2, None, ("let", B0, P1, ("if", ("let", B0, ("if", ("name", B0), NO, YES), P0), P0, YES))))
        yes, no = ((B0, YES),), ((B0, NO),)
        self.assertEqual(needs(told, "one", 0, ENDS_NO), (
            ((P0, yes, ENDS_YES), (P0, no, ENDS_NO), (P1, (), ENDS_NO)), ((P0, yes, ENDS_NO), (P0, no, ENDS_YES), (P1, (), ENDS_YES))))

    def test_other_faults(self):
        # No rule catches a fault that stands in none.
        told = book(form("one", 0, 1, None, ("catch", "v", ("catch", "w", P0, YES), NO)))
        self.assertEqual(needs(told, "one", 0, OTHER), (((P0, (), OTHER),),))
        self.assertEqual(needs(told, "one", 0, V), ())
        self.assertEqual(needs(told, "one", 0, ENDS_NO), (((P0, (), ENDS_NO),), ((P0, (), V),)))

    def test_rows(self):
        told = book(form("seq", 0, 1, (1, 1), P0, ("let", R0, H0, ("if", name(R0), ("rest",), ("show", YES)))))
        first, second = ("here", 0, 0), ("here", 1, 0)
        seen = ((("row", 0, 0), YES),)
        self.assertEqual(needs(told, "seq", 2, SHOWS), (
            ((first, (), ENDS_NO),), ((first, (), SHOWS),), ((first, (), ENDS_YES), (second, seen, ENDS_NO)), ((first, (), ENDS_YES), (second, seen, SHOWS)),
            ((P0, seen + ((("row", 1, 0), YES),), SHOWS), (first, (), ENDS_YES), (second, seen, ENDS_YES))))
        self.assertEqual(needs(told, "seq", 0, SHOWS), (((P0, (), SHOWS),),))

    def test_great_books(self):
        for times, made in ((2, side_by_side), (3, side_by_side), (2, inside), (3, inside)):
            told = chain(times, made, 12)
            seen = ((B0, N),)
            for goal in (("ends", A0), OTHER, SHOWS, ENDLESS, ASKS):
                self.assertEqual(needs(told, "fl", 0, goal), (((P0, seen, goal),),))
            self.assertEqual(needs(told, "fl", 0, ENDS_N), ())
        words = "abcdefghijkl"
        forms = [form("fa", 0, 2, None, ("if", P0, P1, NO))]
        for one, other in zip(words, words[1:]):
            inner = own("f" + one, [], [P1, P0])
            forms.append(form("f" + other, 0, 2, None, ("catch", "w", own("f" + one, [], [own("f" + one, [], [P0, inner]), ("then", ("show", num(1)), inner)]), own("f" + one, [], [P1, ("fail", "w")]))))
        told = book(*forms)
        less = ("less", ASK, num(1))
        parts = [YES, NO, ("show", YES), ("fail", "w"), ("if", less, ("fail", "w"), YES), ("if", less, NO, ("fail", "v")), less, ("while", less, num(1))]
        # What a use comes to is told by what its parts come to.
        lots = {goal: needs(told, "fl", 0, goal) for goal in (ENDS_YES, ENDS_NO, W, OTHER, SHOWS, ENDLESS)}
        for one in parts:
            for other in parts:
                lot = [(place, (), what) for place, part in ((P0, one), (P1, other)) for what in brings(told, (), part)]
                found = brings(told, (), own("fl", [], [one, other]))
                for goal in lots:
                    coming = any(all(thing in lot for thing in need) for need in lots[goal])
                    self.assertEqual(goal in found, coming, (goal, one, other))

    def test_small_books(self):
        """Things and needs are those of what is written out."""
        tried = 0
        for seed in range(50):
            maker = Kindly(seed, cells=[(), ("c",), ("c", "d")][seed % 3]) if seed % 2 else Maker(seed, heads=KINDLY + ["if", "catch", "while"])
            told = maker.book(3)
            for one in told[2]:
                for many in range(3 if one[4] else 1):
                    kinds = plain(told, one[1], many)
                    if kinds is None:
                        continue
                    try:
                        free = naiveruns.Form(told, one[1], many, kinds)
                        lots = free.all_lots()
                    except naive.TooLong:
                        continue
                    tried += 1
                    order = free.things()
                    self.assertEqual(things(told, one[1], many), tuple(order))
                    for goal in list(lots) + [OTHER, ENDLESS, SHOWS, ENDS_N]:
                        due = [sorted(order.index(thing) for thing in lot) for lot in lots.get(goal, ())]
                        due = sorted(due, key=lambda lot: (len(lot), lot))
                        self.assertEqual(needs(told, one[1], many, goal), tuple(tuple(order[at] for at in lot) for lot in due), (seed, one[1], many, goal))
                        # A goal comes under a lot exactly if it has one of the needs.
                        some = [at for at in range(len(order)) if maker.random.random() < 0.5]
                        coming = any(set(lot) <= set(some) for lot in due)
                        self.assertEqual(goal in free.under({order[at] for at in some}), coming)
        self.assertGreater(tried, 100)

    def test_written_in(self):
        """[180]: a form and the same form with all that it uses written in have equal things and needs."""
        tried = 0
        for seed in range(30):
            maker = Kindly(seed, cells=("c",), rows=False)
            told = maker.book(3)
            word, binds, parts = told[2][-1][1:4]
            template = written_in(told, told[2][-1])
            if sum(1 for _ in nodes(template)) > 60 or not [node for node in nodes(told[2][-1][5][0]) if node[0] == "own"]:
                continue
            tried += 1
            # The faults of a book count, so the forms within stay in it.
            made = ("book", told[1], told[2][:-1] + (("form", word, binds, parts, None, (template,)),))
            if naiveruns.faults_in(made) != naiveruns.faults_in(told):
                continue
            self.assertEqual(things(made, word, 0), things(told, word, 0))
            for goal in (ENDS_N, ENDS_YES, ENDS_NO, V, W, OTHER, ENDLESS, READS, SETS, SHOWS, ASKS):
                if goal not in (V, W) or goal[1] in naiveruns.faults_in(made):
                    self.assertEqual(needs(made, word, 0, goal), needs(told, word, 0, goal))
        self.assertGreater(tried, 3)


def written_in(told, one):
    """Give a form's template with all own uses written out, fresh names being told by letters."""
    use = naive.open_use(one, 0, lambda place: place, lambda place: ("leaf", place))
    names = {}

    def named(x):
        return names.setdefault(x, "n" + "abcdefghijklmnopqrstuvwxyz"[len(names) // 26] + "abcdefghijklmnopqrstuvwxyz"[len(names) % 26]) if x[0] == "fresh" else x

    def go(node):
        return node[1] if node[0] == "leaf" else naive.mapped(node, named, go)

    return go(naive.Expander(told).outermost(use))


def nodes(e):
    yield e
    if e[0] not in ("part", "here", "rest"):
        found = []
        naive.mapped(e, lambda x: x, lambda part: found.append(part) or part)
        for part in found:
            yield from nodes(part)


if __name__ == "__main__":
    unittest.main()
