"""Forms that play apart, behaviours put together, and sources."""

import itertools
import unittest

import naive
import naiveplays

from formrules.apart import first_apart
from formrules.errors import (
    BadBook, BadForm, BadMany, BadPlace, BadPlain, BadSheets, NoPlain, OtherPlaces, TooMany,
)
from formrules.least import behaviour
from formrules.opened import played
from formrules.places import outcomes, places
from formrules.plains import common, plain
from formrules.shapes import own_uses
from formrules.sights import sights
from formrules.signatures import is_of
from formrules.sources import gives, sources
from formrules.together import put_together, within
from formrules.words import is_name

from calls import check_calls
from fixtures import ASK, B0, BOOK32, BOOK47, H0, MIXED, NO, P0, P1, P2, R0, YES, book, form, name, num, own
from kindly import Kindly
from test_opened import EVIL, KEEP, KEEPING, check_plain, ends, thing
from test_plains import filling_of

N, T = ("number",), ("truth",)
A0, A1 = ("any", 0), ("any", 1)
ONE_PART = [
    KEEP, form("once", 0, 1, None, P0), form("twice", 0, 1, None, ("then", P0, P0)), form("again", 0, 1, None, ("catch", "w", P0, P0)),
    form("shown", 0, 1, None, ("show", P0)), form("lost", 0, 1, None, ("then", P0, ("fail", "w"))), form("never", 0, 1, None, ("while", YES, num(1))),
]
ONES = book(*ONE_PART, cells=("c",))


class FirstApart(unittest.TestCase):
    def test_calls(self):
        good = {"book": ONES, "one": "once", "other": "twice", "many": 0}
        bad = [("book", None, BadBook)] + [(at, one, BadForm) for at in ("one", "other") for one in ("none", None, 1)]
        bad += [("many", one, BadMany) for one in (-1, 1, 9, True, None)]
        check_calls(self, first_apart, good, bad)
        check_plain(self, first_apart_of_itself, {"book": EVIL, "name": "seq", "many": 1}, {})

    def test_order_of_errors(self):
        rows = form("rows", 0, 1, (0, 1), P0, ("then", H0, ("rest",)))
        other = form("other", 0, 1, (1, 1), P0, ("then", H0, ("rest",)))
        none = form("none", 0, 1, (0, 1), P0, ("first", num(1)))
        parted = form("parted", 0, 1, (0, 1), ("then", ("if", P0, num(1), num(1)), P0), ("if", P0, H0, H0))
        number = form("number", 0, 1, (0, 1), ("set", "c", P0), ("set", "c", P0))
        told = book(rows, other, none, parted, number, *EVIL[2][1:], *ONE_PART[1:2], cells=("c",))
        for one, rival, many, error in (
            ("rows", "once", 1, BadMany), ("once", "rows", 1, BadMany), ("rows", "other", 1, OtherPlaces), ("rows", "seq", 2, OtherPlaces),
            ("rows", "other", 4, OtherPlaces), ("rows", "none", 4, TooMany), ("none", "rows", 1, NoPlain), ("rows", "none", 1, NoPlain),
            ("parted", "number", 0, NoPlain), ("great", "once", 0, TooMany), ("once", "great", 0, TooMany),
        ):
            for wanted in (None, 7):
                with self.assertRaises(error) as caught:
                    first_apart(told, one, rival, many, wanted)
                if error is TooMany:
                    self.assertEqual(caught.exception.most, 3 if many else 100)
        # Without rows they have the same places.
        self.assertIsNone(first_apart(told, "rows", "other", 0))
        self.assertIsNone(first_apart(told, "rows", "once", 0))
        for wanted in (7, ("plain", (), ((P0, T),), T)):
            with self.assertRaises(BadPlain):
                first_apart(told, "number", "rows", 0, wanted)
        self.assertEqual(first_apart(told, "number", "rows", 0, ("plain", (), ((P0, N),), N)), (tuple(ends(0)), 1))

    def test_least_answers(self):
        for one, other, found in (
            ("once", "once", None), ("once", "twice", (ends(0), 1)), ("once", "again", ([("fails", "w")], 1)), ("once", "keep", (ends(0), 1)),
            ("once", "shown", (ends(0), 1)), ("once", "never", ([], 0)), ("lost", "once", (ends(0), 1)), ("twice", "again", (ends(0), 1)),
        ):
            for pair in ((one, other), (other, one)):
                self.assertEqual(first_apart(ONES, *pair, 0), found and (tuple(found[0]), found[1]))

    def test_order_of_answers(self):
        # Ends ahead of fails, by their index; then faults by letters; the first answers count first.
        def told(one, other):
            return first_apart(book(form("one", 0, 3, None, one), form("other", 0, 3, None, other)), "one", "other", 0)

        turn = ("if", P0, num(1), num(1))
        self.assertEqual(told(("then", turn, P1), ("if", P0, P1, P2)), (tuple(ends(1)), 1))
        self.assertEqual(told(("if", P0, P2, P2), ("if", P0, P1, P1)), (tuple(ends(0)), 1))
        self.assertEqual(told(("catch", "w", turn, num(2)), ("catch", "v", turn, num(2))), ((("fails", "v"),), 1))
        self.assertEqual(told(("catch", "w", ("catch", "v", turn, num(2)), num(2)), ("catch", "v", turn, num(2))), ((("fails", "w"),), 1))
        self.assertEqual(told(("catch", "w", turn, num(2)), ("if", P0, num(1), num(3))), (tuple(ends(1)), 1))
        # The least number of events comes ahead of the least answers; what is shown and asked counts, too.
        self.assertEqual(told(("if", P0, ("then", P1, P1), P1), ("if", P0, P1, P2)), (tuple(ends(1)), 1))
        self.assertEqual(told(("then", ASK, ("then", ("show", num(1)), turn)), ("then", ASK, ("then", ("show", num(1)), ("then", turn, num(2))))), (tuple(ends(0)), 3))
        self.assertEqual(told(("pair", ("show", ASK), ("show", ASK)), ("let", "t", ("show", ASK), ("pair", name("t"), ("show", name("t"))))), ((), 2))
        both = ("let", "t", P0, ("let", "u", P0, ("then", ("if", ("catch", "w", name("u"), YES), num(1), num(1)), ("pair", name("t"), name("u")))))
        swapped = ("let", "t", P0, ("let", "u", P0, ("then", ("if", name("u"), num(1), num(1)), ("pair", name("u"), name("t")))))
        self.assertEqual(told(both, swapped), (tuple(ends(0, 1)), 2))

    def test_things(self):
        def told(one, other, cells=()):
            return first_apart(book(form("one", 1, 2, None, one), form("other", 1, 2, None, other), cells=cells), "one", "other", 0)

        self.assertEqual(told(("pair", P0, P0), ("let", "t", P0, ("then", P0, ("pair", name("t"), name("t"))))), (tuple(ends(0, 0)), 2))
        self.assertEqual(told(("let", B0, P0, P1), ("let", "t", P0, P1)), (tuple(ends(0)), 1))
        self.assertIsNone(told(("let", B0, P0, ("then", name(B0), P1)), ("let", "t", P0, ("let", B0, name("t"), P1))))
        self.assertEqual(told(("then", ("set", "c", num(1)), P0), P0, ("c",)), ((), 0))
        self.assertEqual(told(("let", "t", ("get", "c"), ("then", P0, ("show", name("t")))), ("then", P0, ("show", ("get", "c"))), ("c",)), (tuple(ends(0)), 1))
        self.assertIsNone(told(("let", "t", ("get", "c"), ("then", ("show", name("t")), P0)), ("then", ("show", ("get", "c")), P0), ("c",)))

    def test_small_books(self):
        tried = {True: 0, False: 0}
        for seed in range(120):
            maker = Kindly(seed, cells=[(), ("c",), ("c", "d")][seed % 3])
            told = maker.book(2, 3)
            base = told[2][-1][1]
            for word in ("xa", "xb"):
                told = maker.with_form(told, word, 3, like=base)
            for one, other in itertools.permutations([base, "xa", "xb"], 2):
                many = maker.random.randint(0, 2) if told[2][-1][4] else 0
                both = common(plain(told, one, many), plain(told, other, many))
                if both is None:
                    continue
                wanted = maker.pick([None, filling_of(maker, both)])
                found = first_apart(told, one, other, many, wanted)
                try:
                    sheets = [behaviour(told, word, many, wanted or both) for word in (one, other)]
                except TooMany:
                    continue
                self.assertEqual(found is None, sheets[0] == sheets[1])
                tried[found is None] += 1
                if found is not None:
                    self.check(told, (one, other), many, wanted or both, found)
        self.assertGreater(min(tried.values()), 60)

    def check(self, told, pair, many, kinds, found):
        """Hold what is told first against all answers that are less."""
        answers, at = found
        plays = [naiveplays.play(told, word, many, kinds, answers, 200) for word in pair]
        items = [events + (end,) for events, end in plays]
        self.assertEqual(items[0][:at], items[1][:at])
        self.assertNotEqual(items[0][at], items[1][at])
        self.assertEqual(len(answers), len([event for event in items[0][:at] if event[0] == "does"]))
        for some in self.lesser(told, pair, many, kinds, at, answers):
            plays = [naiveplays.play(told, word, many, kinds, some, 200) for word in pair]
            items = [events + (end,) for events, end in plays]
            where = min([k for k, both in enumerate(zip(*items)) if both[0] != both[1]] + [99])
            self.assertGreaterEqual(where, at)

    def lesser(self, told, pair, many, kinds, at, answers):
        """List some answers, those with fewer events among them."""
        parts = dict(kinds[2])
        most = max(len(outcomes(kind)) for kind in parts.values())
        choice = [("ends", k) for k in range(most)] + [("fails", "v"), ("fails", "w")]
        for length in range(min(len(answers), 2)):
            for some in itertools.product(choice, repeat=length):
                try:
                    for word in pair:
                        played(told, word, many, some, 200, kinds)
                except Exception:
                    continue
                yield some


def first_apart_of_itself(book, name, many, plain=None):
    return first_apart(book, name, name, many, plain)


class Together(unittest.TestCase):
    def test_calls(self):
        bad = [("book", None, BadBook)] + [("name", one, BadForm) for one in ("none", None, 1)]
        bad += [("many", one, BadMany) for one in (-1, 9, True, None)]
        check_calls(self, within, {"book": MIXED, "name": "seq", "many": 1}, bad)
        sheets = {("seq", 0): behaviour(MIXED, "seq", 0)}
        check_calls(self, put_together, {"book": MIXED, "name": "seq", "many": 1, "sheets": sheets}, bad + [
            ("sheets", one, BadSheets) for one in (
                None, [], {}, {("seq", 1): sheets[("seq", 0)]}, {**sheets, ("odd", 0): sheets[("seq", 0)]}, {("seq", 0): None},
                {("seq", False): sheets[("seq", 0)]}, {("seq", 0): ((0,), ())}, {"seq": sheets[("seq", 0)]}, [(("seq", 0), sheets[("seq", 0)])],
            )])

    def test_order_of_errors(self):
        user = form("user", 0, 1, (0, 1), P0, own("seq", [], [P0], [("t", [H0]), ("u", [H0]), ("v", [H0]), ("x", [H0])]))
        broken = form("broken", 0, 0, None, ("first", num(1)))
        drop = form("drop", 0, 1, None, num(1))
        using = form("using", 0, 0, None, own("drop", [], [own("broken")]))
        great = form("greater", 0, 1, None, own("drop", [], [own("great", [], [P0])]))
        both = form("both", 0, 1, None, ("then", own("drop", [], [own("broken")]), own("drop", [], [own("great", [], [P0])])))
        told = book(*EVIL[2], user, broken, drop, using, great, both, cells=("c",))
        for word, many, error, most in (
            ("seq", 4, TooMany, 3), ("user", 1, TooMany, 3), ("greater", 0, TooMany, 100), ("both", 0, TooMany, 100), ("f", 0, NoPlain, None),
            ("using", 0, NoPlain, None), ("seq", 2, BadSheets, None),
        ):
            with self.assertRaises(error) as caught:
                put_together(told, word, many, None)
            if most:
                self.assertEqual(caught.exception.most, most)

    def test_within(self):
        drop = form("drop", 0, 1, None, num(1))
        rule = own("seq", [], [own("drop", [], [own("seq", [], [P0])])], [("t", [own("drop", [], [("rest",)])])])
        told = book(MIXED[2][2], drop, form("g", 0, 1, (1, 1), own("drop", [], [P0]), rule))
        self.assertEqual(within(told, "g", 0), (("drop", 0),))
        self.assertEqual(within(told, "g", 1), (("drop", 0), ("g", 0), ("seq", 0), ("seq", 1)))
        self.assertEqual(within(told, "g", 8), (("drop", 0), ("g", 7), ("seq", 0), ("seq", 1)))
        self.assertEqual(within(told, "seq", 3), (("seq", 2),))
        self.assertEqual(within(told, "drop", 0), ())

    def test_sheets_tell_what_is_done(self):
        # twice is put together out of a sheet of once that shows something: the template of once does not count.
        told = book(ONE_PART[1], form("user", 0, 1, None, ("pair", own("once", [], [P0]), num(1))))
        sheet = ((), (((), ("shows", num(5), (1, ()))), ((), ("does", P0, (), (), ((2, (0,)),), ())), ((A0,), ("ends", thing(0), ()))))
        self.assertEqual(put_together(told, "user", 0, {("once", 0): sheet}), ((), sheet[1][:2] + (((A0,), ("ends", ("pair", thing(0), num(1)), ())),)))
        # A sheet that never ends, one that fails, one that turns without anything that comes.
        never = ((), (((), ("never",)),))
        self.assertEqual(put_together(told, "user", 0, {("once", 0): never}), never)
        fails = ((), (((), ("fails", "w", ())),))
        self.assertEqual(put_together(told, "user", 0, {("once", 0): fails}), fails)
        turning = book(ONE_PART[1], form("user", 0, 0, None, own("once", [], [num(1)])))
        sheet = ((), (((), ("does", P0, (), (), ((0, ()),), ())),))
        self.assertEqual(put_together(turning, "user", 0, {("once", 0): sheet}), never)

    def test_names_and_cells(self):
        inner = form("inner", 1, 2, None, ("let", B0, P0, ("then", ("set", "c", num(3)), P1)))
        rule = own("inner", [B0], [("get", "c"), own("inner", ["t"], [P0, ("pair", name("t"), P1)])])
        told = book(inner, form("user", 1, 2, None, rule), cells=("c",))
        sheets = {("inner", 0): behaviour(told, "inner", 0)}
        self.assertEqual(put_together(told, "user", 0, sheets), behaviour(told, "user", 0))
        # A sheet that does the second place ahead of the first one, with other cells.
        sheet = ((0,), (
            ((N,), ("does", P1, (None,), (num(2),), ((1, (1, 2)),), ())),
            ((A1, N), ("does", P0, (None,), (thing(1),), ((2, (0, 3)),), ())), ((A1, N), ("ends", thing(0), (thing(1),)))))
        told = book(inner, form("user", 0, 2, None, own("inner", ["t"], [("show", P0), P1])), cells=("c",))
        found = put_together(told, "user", 0, {("inner", 0): sheet})
        self.assertEqual([what[0] for _, what in found[1]], ["does", "does", "shows", "ends"])
        self.assertEqual(found[1][0][1][1:4], (P1, (), (num(2),)))

    def test_small_books(self):
        tried = 0
        for seed in range(150):
            maker = Kindly(seed, cells=[(), ("c",), ("c", "d")][seed % 3])
            told = maker.book(4, 4)
            for one in told[2]:
                for many in range(3 if one[4] else 1):
                    inner = within(told, one[1], many)
                    try:
                        found = behaviour(told, one[1], many)
                        sheets = {pair: behaviour(told, *pair) for pair in inner}
                    except (TooMany, NoPlain):
                        continue
                    try:
                        self.assertEqual(put_together(told, one[1], many, sheets), found)
                    except IndexError:
                        # A use within goes by no filling of the plain scheme: nothing is promised.
                        continue
                    tried += len(inner) > 0
        self.assertGreater(tried, 150)


class Sources(unittest.TestCase):
    def test_calls(self):
        good = {"book": EVIL, "name": "seq", "many": 1, "place": P0}
        bad = [("book", None, BadBook)] + [("name", one, BadForm) for one in ("none", None, 1)]
        bad += [("many", one, BadMany) for one in (-1, 9, True, None)]
        check_calls(self, gives, {at: good[at] for at in list(good)[:3]}, bad)
        check_plain(self, gives, {at: good[at] for at in list(good)[:3]}, {})
        bad += [("place", one, BadPlace) for one in (
            None, 1, "part", P1, B0, ("here", 1, 0), ("part", False), ["part", 0], ("part",), ("here", 0), ("rest",), ("here", 0, True))]
        check_calls(self, sources, good, bad)
        check_plain(self, sources, good, {"place": (B0, BadPlace)})

    def test_examples(self):
        self.assertEqual(gives(KEEPING, "keep", 0), (("gave", P0, 0),))
        self.assertEqual(sources(KEEPING, "keep", 0, P0), ((), ((("cell", "c"),),)))
        self.assertEqual(gives(BOOK32, "both", 0), (NO, YES))
        self.assertEqual(sources(BOOK47, "odd", 0, P0), (((num(1), None),), ()))

    def test_patterns(self):
        rule = ("let", B0, ASK, ("then", ("set", "c", ("get", "d")), ("then", P0, ("let", B0, ("if", P1, ("get", "c"), num(3)), P0))))
        told = book(form("g", 1, 2, None, rule), cells=("c", "d"))
        self.assertEqual(sources(told, "g", 0, P0), (
            ((("asked",), ("left", P1, "c"), num(3)),),
            ((("cell", "d"), ("left", P1, "c")), (("cell", "d"), ("left", P1, "d"))),
        ))
        self.assertEqual(sources(told, "g", 0, P1), (((("asked",),),), ((("left", P0, "c"),), (("left", P0, "d"),))))
        self.assertEqual(gives(told, "g", 0), (("gave", P0, 0),))
        # Terms, each of their things; those that come together; things of an outcome by their numbers.
        told = book(form("g", 0, 2, None, ("let", "t", P0, ("pair", ("second", name("t")), ("if", P1, ("first", name("t")), ("first", P0))))))
        one, two = ("gave", P0, 0), ("gave", P0, 1)
        self.assertEqual(gives(told, "g", 0), (("pair", two, one),))
        swap = ("let", "t", ("if", P1, P0, ("let", "u", P0, ("pair", ("second", name("u")), ("first", name("u"))))), name("t"))
        self.assertEqual(gives(book(form("g", 0, 2, None, swap)), "g", 0), (("pair", one, two), ("pair", two, one)))
        # Nothing comes at a place that is never done, nor of a form that never ends.
        told = book(form("g", 1, 2, None, ("while", YES, P0)), cells=("c",))
        self.assertEqual(sources(told, "g", 0, P1), (((),), ((),)))
        self.assertEqual(gives(told, "g", 0), ())
        self.assertEqual(sources(told, "g", 0, P0), (((None,),), ((("cell", "c"), ("left", P0, "c")),)))

    def test_too_many_rows(self):
        def tree(many):
            return P0 if many == 1 else ("pair", tree(many // 2), tree(many - many // 2))

        told = book(form("g", 0, 1, None, ("if", P0, tree(8), ("fail", "w"))))
        for function, more in ((sources, (P0,)), (gives, ())):
            with self.assertRaises(TooMany) as caught:
                function(told, "g", 0, *more)
            self.assertEqual(caught.exception.most, 200)

    def test_small_books(self):
        """What comes in open runs is told, and all that is told comes in some."""
        tried, told_all = 0, 0
        for seed in range(100):
            maker = Kindly(seed, cells=[(), ("c",)][seed % 2])
            told = maker.book(2, 3)
            one = told[2][-1]
            many = 1 if one[4] else 0
            kinds = plain(told, one[1], many)
            try:
                found = {place: sources(told, one[1], many, place) for place in places(told, one[1], many)[1]}
            except TooMany:
                continue
            seen = {place: [set() for _ in found[place][0] + found[place][1]] for place in found}
            given = set()
            for _ in range(60):
                answers = [("fails", "v") if maker.random.random() < 0.2 else ("ends", maker.random.randint(0, 1)) for _ in range(8)]
                run = naiveplays.OpenRun(told, one[1], many, kinds, answers, 30)
                try:
                    _, end = run.showing()
                except IndexError:
                    continue
                if end[0] == "ends":
                    given.add(pattern(end[1], run.sources))
                for place, terms, held in run.done:
                    for lot, term in zip(seen[place], terms + held):
                        lot.add(pattern(term, run.sources))
            for place in found:
                for lot, patterns in zip(seen[place], found[place][0] + found[place][1]):
                    self.assertLessEqual(lot, set(patterns))
                    self.assertEqual(list(patterns), sorted(set(patterns), key=repr))
                    tried += len(lot)
                    told_all += lot == set(patterns)
            self.assertLessEqual(given, set(gives(told, one[1], many)))
        self.assertGreater(tried, 80)
        self.assertGreater(told_all, 60)


def pattern(term, sources_of):
    """Give a term with what its things come from."""
    if term is None or term[0] in ("number", "truth"):
        return term
    if term[0] == "pair":
        return ("pair", pattern(term[1], sources_of), pattern(term[2], sources_of))
    return sources_of[term[1]]


class WrittenIn(unittest.TestCase):
    """[180]: a form, and the same form with all that it uses written in."""

    def test_small_books(self):
        tried = 0
        for seed in range(150):
            maker = Kindly(seed, cells=("c",))
            told = maker.book(4, 3)
            for one in told[2]:
                rules = []
                for rule in one[5]:
                    rules.append(written_in(told, rule))
                other = ("form", "other", *one[2:5], tuple(rules))
                longer = ("book", told[1], told[2] + (other,))
                for many in range(4 if one[4] else 1):
                    self.assertEqual(sights(longer, one[1], many), sights(longer, "other", many))
                    self.assertEqual(plain(longer, one[1], many), plain(longer, "other", many))
                    try:
                        found = behaviour(longer, one[1], many)
                    except TooMany:
                        continue
                    self.assertEqual(found, behaviour(longer, "other", many))
                    self.assertIsNone(first_apart(longer, one[1], "other", many))
                    self.assertEqual(gives(longer, one[1], many), gives(longer, "other", many))
                    tried += any(own_uses(rule) for rule in one[5])
        self.assertGreater(tried, 60)


def written_in(told, rule):
    """Give a template with all forms within written out, and names for its own ones."""
    def leaf(node):
        if node[0] in ("part", "here", "rest"):
            return ("leaf", node)
        return naive.mapped(node, lambda x: x, leaf)

    out = naive.Expander(told).outermost(leaf(rule))
    words = {}

    def word(x):
        if isinstance(x, tuple) and x[0] == "fresh":
            if x not in words:
                words[x] = ["a" + b + c for b in "bcdghjklmpq" for c in "abcdefghijklmnopqrstuvwxyz" if is_name("a" + b + c)][len(words)]
            return words[x]
        return x

    def named(node):
        return node[1] if node[0] == "leaf" else naive.mapped(node, word, named)

    return named(out)


if __name__ == "__main__":
    unittest.main()
