"""Bare forms: trees, writings, cuts, tables, lots, and what is carried over."""

import itertools
import random
import unittest

import naivetrees

from formrules.carrying import carried, carry
from formrules.closed import is_closed
from formrules.errors import (
    BadBook, BadExpression, BadForm, BadLot, BadParts, BadTree, BadWriting, NotWritten, TooMany,
)
from formrules.lots import bases, least_lots, needless
from formrules.running import run
from formrules.shapes import nodes_of
from formrules.tables import is_table, least_writing, table
from formrules.trees import is_bare, is_tree, tree_of
from formrules.writings import is_cut, is_writing, tree_written

from calls import check_calls
from fixtures import ASK, B0, NO, ODDITIES, P0, P1, P2, YES, book, form, name, num, own

SAYS_YES, SAYS_NO = ("yes",), ("no",)
# The forms of [117].
BOTH = form("both", 0, 2, None, ("if", P0, P1, NO))
NOPE = form("nope", 0, 1, None, ("if", P0, NO, YES))
EITHER = form("either", 0, 2, None, ("if", P0, YES, P1))
BOOK117 = book(BOTH, NOPE, EITHER)
DOES0, DOES1 = ("does", 0, SAYS_YES, SAYS_NO), ("does", 1, SAYS_YES, SAYS_NO)
T117 = ("does", 0, SAYS_YES, DOES1)
LOT = ("both", "nope")
BAD_LOTS = [None, 7, "both", ["both"], ("both", "both"), ("none",), (1,), (["both"],), (None,), ("both", ("nope",)), {"both": 1}]
BAD_PARTS = [None, -1, 5, True, "1", (1,)]
NO_TREES = ODDITIES + [
    (SAYS_YES,), ("yes", 1), ["yes"], ("fails",), ("fails", "if"), ("fails", None), ("fails", "v", 1), ("shows", 1), ("shows", 8, SAYS_YES), ("shows", True, SAYS_YES), ("shows", 1, "yes"),
    ("shows", 1, SAYS_YES, SAYS_NO), ("does", 0, SAYS_YES), ("does", 2, SAYS_YES, SAYS_NO), ("does", -1, SAYS_YES, SAYS_NO), ("does", False, SAYS_YES, SAYS_NO), ("does", 0, SAYS_YES, None),
    ("does", 0, SAYS_YES, SAYS_NO, SAYS_NO), ["does", 0, SAYS_YES, SAYS_NO], ("does", 0, SAYS_YES, ("does", 2, SAYS_YES, SAYS_NO)), YES, NO,
]


def doing(depth):
    """Give a tree that does its places in turn."""
    tree = SAYS_YES
    for k in range(depth):
        tree = ("does", k % 2, tree, ("shows", k % 8, SAYS_NO))
    return tree


class Bare(unittest.TestCase):
    def test_is_bare(self):
        good = {"book": BOOK117, "name": "both"}
        check_calls(self, is_bare, good, [("book", None, BadBook)] + [("name", one, BadForm) for one in ("none", None, 1, ["both"])])
        bare = [NO, P0, ("fail", "w"), ("then", P0, P1), ("then", ("show", num(7)), P1), ("if", P0, YES, ("fail", "v")), own("both", [], [P0, own("nope", [], [P1])]), ("then", ("then", ("show", num(0)), P0), P1)]
        other = [
            num(1), ("show", P0), ("show", num(1)), ("then", P0, ("show", num(1))), ("then", ("show", P0), P1), ("then", ("show", YES), P1), ("pair", P0, P1), ("let", "x", P0, P1), ASK, ("while", P0, P1),
            ("catch", "w", P0, P1), ("if", P0, P1, num(1)), ("then", num(1), P0), ("if", ("show", num(1)), P0, P1), own("both", [], [P0, num(1)]), own("named", ["x"], [P0]), own("odd", [], [P0]), ("then", ("get", "c"), P0),
            own("rows", [], [P0], [((), [P1])]), own("rows", [], [P0]), ("then", ("show", ("get", "c")), P0),
        ]
        forms = [BOTH, NOPE, form("named", 1, 1, None, P0), form("odd", 0, 1, None, ("show", P0)), form("rows", 0, 1, (0, 1), P0, P0)]
        told = book(*forms, cells=("c",))
        self.assertEqual([is_bare(told, one[1]) for one in forms], [True, True, False, False, False])
        for rule in bare:
            self.assertTrue(is_bare(book(*forms, form("last", 0, 2, None, rule), cells=("c",)), "last"), rule)
        for rule in other:
            self.assertFalse(is_bare(book(*forms, form("last", 0, 2, None, rule), cells=("c",)), "last"), rule)
        self.assertFalse(is_bare(book(form("one", 1, 0, None, YES)), "one"))

    def test_is_tree(self):
        check_calls(self, is_tree, {"parts": 2, "thing": T117}, [("parts", one, BadParts) for one in BAD_PARTS])
        for tree in (SAYS_YES, SAYS_NO, ("fails", "w"), ("shows", 7, SAYS_NO), T117, ("does", 1, ("shows", 0, ("fails", "v")), SAYS_YES), doing(60)):
            self.assertTrue(is_tree(2, tree))
        for thing in NO_TREES:
            self.assertFalse(is_tree(2, thing), thing)
        self.assertFalse(is_tree(0, DOES0))
        self.assertTrue(is_tree(4, ("does", 3, SAYS_YES, SAYS_NO)))

    def test_tree_of(self):
        told = book(BOTH, form("named", 1, 1, None, P0))
        check_calls(self, tree_of, {"book": told, "name": "both"}, [("book", None, BadBook)] + [("name", one, BadForm) for one in ("none", "named", None, 1, ["both"])])
        self.assertEqual(tree_of(BOOK117, "both"), ("does", 0, DOES1, SAYS_NO))
        self.assertEqual(tree_of(BOOK117, "either"), T117)
        told = book(BOTH, NOPE, form("one", 0, 2, None, ("then", ("show", num(3)), own("both", [], [("fail", "v"), P1]))), form("two", 0, 1, None, ("then", ("if", P0, P0, ("fail", "w")), own("nope", [], [P0]))))
        # What stands behind a part that fails never comes.
        self.assertEqual(tree_of(told, "one"), ("shows", 3, ("fails", "v")))
        no_yes = ("does", 0, SAYS_NO, SAYS_YES)
        self.assertEqual(tree_of(told, "two"), ("does", 0, ("does", 0, no_yes, no_yes), ("fails", "w")))

    def test_trees_tell_all(self):
        """Two bare forms show the same exactly if their trees are equal ([111])."""
        equal, unlike = 0, 0
        for seed in range(110):
            told = naivetrees.bare_book(seed)
            found = {one[1]: tree_of(told, one[1]) for one in told[2]}
            for one in told[2]:
                self.assertTrue(is_bare(told, one[1]))
                self.assertTrue(is_tree(one[3], found[one[1]]))
                self.assertEqual(found[one[1]], naivetrees.tree_of(told, one[5][0]))
            for one, other in itertools.combinations(told[2], 2):
                if one[3] == other[3]:
                    same = all(shown(told, one, inputs) == shown(told, other, inputs) for inputs in itertools.product((0, 5), repeat=7))
                    self.assertEqual(same, found[one[1]] == found[other[1]])
                    equal += same
                    unlike += not same
        self.assertGreater(equal, 3)
        self.assertGreater(unlike, 20)


def shown(told, one, inputs):
    """Give the showing of a use whose parts show which they are, and say what inputs tell."""
    parts = [("then", ("show", ("pair", num(i), YES)), ("less", ASK, num(1))) for i in range(one[3])]
    return run(told, ("show", own(one[1], [], parts)), list(inputs), 60)


class Writings(unittest.TestCase):
    def test_is_writing(self):
        good = {"book": BOOK117, "names": LOT, "parts": 2, "thing": P0}
        named = book(BOTH, NOPE, form("named", 1, 1, None, P0), form("rows", 0, 1, (0, 1), P0, P0))
        bad = [("book", None, BadBook)] + [("names", one, BadLot) for one in BAD_LOTS] + [("parts", one, BadParts) for one in BAD_PARTS]
        check_calls(self, is_writing, good, bad)
        for names in (("named",), ("both", "rows")):
            with self.assertRaises(BadLot):
                is_writing(named, names, 2, P0)
        for thing in (P0, P1, own("both", [], [P0, P0]), own("nope", [], [own("both", [], [P1, own("nope", [], [P0])])])):
            self.assertTrue(is_writing(BOOK117, LOT, 2, thing))
        for thing in ODDITIES + [P2, ("part", True), ("part", 0, 0), ["part", 0], YES, ("then", P0, P1), own("either", [], [P0, P1]), own("both", [], [P0]), own("both", ["x"], [P0, P1]),
                                 own("both", [], [P0, P1], [((), ())]), own("nope", [], [YES]), ("own", "nope", (), [P0], ()), ("own", "nope", (), (P0,)), ("own", "nope", (), (P0,), None)]:
            self.assertFalse(is_writing(BOOK117, LOT, 2, thing), thing)
        self.assertFalse(is_writing(BOOK117, LOT, 0, P0))
        self.assertTrue(is_writing(BOOK117, (), 1, P0))

    def test_tree_written(self):
        good = {"book": BOOK117, "names": LOT, "parts": 2, "writing": own("both", [], [P1, P0])}
        bad = [("book", None, BadBook)] + [("names", one, BadLot) for one in BAD_LOTS] + [("parts", one, BadParts) for one in BAD_PARTS]
        check_calls(self, tree_written, good, bad + [("writing", one, BadWriting) for one in (None, YES, P2, own("either", [], [P0, P1]))])
        self.assertEqual(tree_written(**good), ("does", 1, DOES0, SAYS_NO))
        self.assertEqual(tree_written(BOOK117, (), 3, P2), ("does", 2, SAYS_YES, SAYS_NO))

    def test_cuts(self):
        good = {"parts": 2, "tree": T117, "thing": DOES0}
        check_calls(self, is_cut, good, [("parts", one, BadParts) for one in BAD_PARTS] + [("tree", one, BadTree) for one in NO_TREES])
        for cut in (T117, DOES0, DOES1, SAYS_YES, SAYS_NO):
            self.assertTrue(is_cut(2, T117, cut), cut)
        for thing in NO_TREES + [("does", 0, SAYS_NO, ("does", 0, SAYS_YES, SAYS_NO)), ("does", 0, SAYS_YES, SAYS_YES), ("fails", "v"), ("shows", 1, SAYS_YES)]:
            self.assertFalse(is_cut(2, T117, thing), thing)
        # What stands in place of a yes or of a no may be whatever, and is one for all of these.
        self.assertTrue(is_cut(2, T117, ("does", 1, SAYS_NO, SAYS_YES)))
        self.assertTrue(is_cut(2, T117, ("does", 0, SAYS_NO, SAYS_YES)))
        deep = ("does", 0, ("shows", 1, ("fails", "v")), ("does", 1, ("shows", 1, ("fails", "v")), SAYS_NO))
        self.assertTrue(is_cut(2, deep, ("does", 0, SAYS_YES, ("does", 1, SAYS_YES, SAYS_NO))))
        self.assertTrue(is_cut(2, deep, ("does", 0, SAYS_YES, ("does", 1, ("shows", 1, ("fails", "v")), SAYS_NO))))
        self.assertFalse(is_cut(2, deep, ("does", 0, SAYS_YES, ("does", 1, SAYS_NO, SAYS_NO))))
        self.assertTrue(is_cut(2, deep, ("shows", 1, SAYS_NO)))
        self.assertTrue(is_cut(2, deep, ("fails", "v")))
        self.assertFalse(is_cut(2, deep, ("fails", "w")))
        # A cut may stand at any depth.
        self.assertTrue(is_cut(2, doing(40), doing(3)))

    def test_cuts_of_cuts(self):
        """A cut of a cut is a cut ([113])."""
        rnd = random.Random(2)
        tried = 0
        for seed in range(40):
            for one in naivetrees.bare_book(seed)[2]:
                tree = naivetrees.tree_of(None, one[5][0])
                cuts = cuts_of(tree)
                for cut in rnd.sample(cuts, min(6, len(cuts))):
                    self.assertTrue(is_cut(one[3], tree, cut))
                    for inner in rnd.sample(cuts_of(cut), min(4, len(cuts_of(cut)))):
                        self.assertTrue(is_cut(one[3], tree, inner))
                        tried += 1
                other = naivetrees.tree_of(None, naivetrees.template(rnd, max(one[3], 1), 2))
                if is_tree(one[3], other):
                    self.assertEqual(is_cut(one[3], tree, other), naivetrees.is_cut(other, tree))
        self.assertGreater(tried, 100)


def cuts_of(tree):
    """List cuts of a tree: some of its trees, with some of what stands in these told by a yes or a no."""
    found = []
    for one in naivetrees.within(tree):
        inner = naivetrees.within(one)
        for yes, no in itertools.product(inner[:6], repeat=2):
            found.append(cut_at(one, yes, no))
    return list(dict.fromkeys(cut for cut in found if naivetrees.is_cut(cut, tree)))


def cut_at(tree, yes, no):
    if tree in (yes, no):
        return SAYS_YES if tree == yes else SAYS_NO
    return tree[:2] + tuple(cut_at(one, yes, no) for one in tree[2:]) if tree[0] in ("does", "shows") else tree


class Tables(unittest.TestCase):
    def test_calls(self):
        good = {"book": BOOK117, "names": LOT, "parts": 2, "tree": T117}
        bad = [("book", None, BadBook)] + [("names", one, BadLot) for one in BAD_LOTS] + [("parts", one, BadParts) for one in BAD_PARTS] + [("tree", one, BadTree) for one in NO_TREES]
        for function, more in ((table, {}), (least_writing, {}), (is_table, {"thing": None})):
            check_calls(self, function, {**good, **more}, bad)

    def test_example(self):
        """[117]."""
        found = least_writing(BOOK117, LOT, 2, T117)
        self.assertEqual(found, own("nope", [], [own("both", [], [own("nope", [], [P0]), own("nope", [], [P1])])]))
        self.assertEqual(naivetrees.size(found), 6)
        least = table(BOOK117, ("both",), 2, T117)
        self.assertEqual(set(least), {DOES0, DOES1})
        self.assertIsNone(least_writing(BOOK117, ("both",), 2, T117))
        self.assertTrue(is_table(BOOK117, ("both",), 2, T117, [DOES0, DOES1]))
        self.assertTrue(is_table(BOOK117, ("both",), 2, T117, (DOES1, DOES0)))

    def test_is_table(self):
        least = table(BOOK117, LOT, 2, T117)
        self.assertTrue(is_table(BOOK117, LOT, 2, T117, least))
        for thing in ODDITIES + [least[1:], least[:-1], least + least[:1], least + [SAYS_YES, SAYS_YES], least + [None], least + [("fails", "v")], least + [P0], set(least), {one: 1 for one in least}]:
            self.assertFalse(is_table(BOOK117, LOT, 2, T117, thing), thing)
        # A greater one: what comes of its trees must be in it as well.
        turned = ("does", 0, SAYS_NO, SAYS_YES)
        self.assertTrue(is_table(BOOK117, ("both",), 2, T117, [DOES0, DOES1, turned]))
        self.assertFalse(is_table(BOOK117, ("nope",), 2, T117, [DOES0, DOES1, turned]))
        self.assertTrue(is_table(BOOK117, ("nope",), 2, T117, [DOES0, DOES1, turned, ("does", 1, SAYS_NO, SAYS_YES)]))
        self.assertTrue(is_table(BOOK117, (), 2, T117, [DOES0, DOES1, T117]))
        self.assertFalse(is_table(BOOK117, (), 2, T117, [DOES0, T117]))
        # No error comes of many trees.
        self.assertFalse(is_table(BOOK117, LOT, 2, T117, [("does", 0, SAYS_YES, ("shows", k % 8, SAYS_NO)) for k in range(50)]))

    def test_left_out(self):
        # Only places that are not done may be left out, and only if there is any writing at all.
        told = book(form("one", 0, 2, None, ("if", P0, YES, P1)), form("fix", 0, 1, None, YES), form("lost", 0, 2, None, ("then", P0, ("fail", "v"))), form("none", 0, 0, None, NO))
        self.assertEqual(table(told, ("fix",), 0, SAYS_YES), [])
        self.assertIsNone(least_writing(told, ("fix",), 0, SAYS_YES))
        self.assertTrue(is_table(told, ("fix",), 0, SAYS_YES, []))
        self.assertTrue(is_table(told, ("fix",), 0, SAYS_YES, [SAYS_YES]))
        self.assertEqual(least_writing(told, ("fix",), 1, SAYS_YES), own("fix", [], [P0]))
        self.assertEqual(least_writing(told, ("none", "fix"), 0, SAYS_YES), own("fix", [], [own("none")]))
        self.assertFalse(is_table(told, ("none", "fix"), 0, SAYS_YES, []))
        # Parts that are never done count as well.
        found = least_writing(told, ("lost", "fix"), 1, ("fails", "v"))
        self.assertEqual((found[1], naivetrees.size(found)), ("lost", 4))
        self.assertEqual(least_writing(told, ("one", "fix"), 1, SAYS_YES), own("fix", [], [P0]))

    def test_too_many(self):
        told = choosing(0)
        tree = tree_of(told, "wide")
        lot = ("pick", "nope", "fine", "bad")
        for function in (table, least_writing):
            with self.assertRaises(TooMany) as caught:
                function(told, lot, 4, tree)
            self.assertEqual(caught.exception.most, 40)
            with self.assertRaises(BadTree):
                function(told, lot, 4, None)
        self.assertFalse(is_table(told, lot, 4, tree, []))
        for function, more in ((needless, ()), (least_lots, ("nope",)), (bases, ())):
            with self.assertRaises(TooMany) as caught:
                function(told, lot + ("wide",), *more)
            self.assertEqual(caught.exception.most, 40)
            self.assertIsNotNone(function(told, lot, *more))
        with self.assertRaises(BadForm):
            least_lots(told, lot + ("wide",), "gone")
        for function, more in ((carried, ()), (carry, (YES,))):
            with self.assertRaises(TooMany) as caught:
                function(told, told, ("wide",), *more)
            self.assertEqual(caught.exception.most, 40)
        # Ahead of it comes what is wrong with the expression; a form that cannot be written comes behind.
        with self.assertRaises(BadExpression):
            carry(told, told, ("wide",), own("nope", [], [YES]))
        with self.assertRaises(TooMany):
            carry(book(*told[2], form("lost", 0, 0, None, ("fail", "v"))), told, ("lost", "wide"), own("lost"))
        # Just 40 are not too many.
        told = choosing(3)
        self.assertEqual(len(table(told, lot, 4, tree_of(told, "wide"))), 40)

    def test_plain_way(self):
        """The least table has just the trees of writings, and a least writing has the least size ([113])."""
        written, unwritten = 0, 0
        for seed in range(150):
            told = naivetrees.bare_book(seed)
            rnd = random.Random(seed)
            names = [one[1] for one in told[2]]
            lot = tuple(rnd.sample(names, rnd.randint(1, len(names))))
            parts = rnd.choice([0, 1, 2, 2])
            writing = naivetrees.writing(rnd, told, lot, parts, rnd.choice([1, 2, 3]))
            if writing is None or rnd.random() < 0.3:
                writing = None
                tree = naivetrees.tree_of(told, told[2][-1][5][0])
                parts = max(parts, told[2][-1][3])
            else:
                tree = naivetrees.tree_of(told, writing)
                if naivetrees.tree_size(tree) > 60:
                    continue
                self.assertTrue(is_writing(told, lot, parts, writing))
                self.assertEqual(tree_written(told, lot, parts, writing), tree)
            forms = [(naivetrees.tree_of(told, one[5][0]), one[3]) for one in told[2] if one[1] in lot]
            expected = naivetrees.table(forms, parts, tree, 40)
            if expected is None:
                with self.assertRaises(TooMany):
                    table(told, lot, parts, tree)
                continue
            found = table(told, lot, parts, tree)
            self.assertEqual((set(found), len(found)), (expected, len(expected)), seed)
            self.assertTrue(is_table(told, lot, parts, tree, found))
            least = least_writing(told, lot, parts, tree)
            self.assertEqual(least is not None, tree in expected)
            if least is None:
                self.assertIsNone(writing)
                unwritten += 1
                continue
            written += 1
            self.assertTrue(is_writing(told, lot, parts, least))
            self.assertEqual(tree_written(told, lot, parts, least), tree)
            self.assertLessEqual(naivetrees.size(least), naivetrees.size(writing) if writing else 99)
            for one in small_writings(told, lot, parts, min(naivetrees.size(least) - 1, 5)):
                self.assertNotEqual(tree_written(told, lot, parts, one), tree)
        self.assertGreater(written, 60)
        self.assertGreater(unwritten, 10)


def choosing(seed):
    """Give a book with a form that chooses four times by its parts, and forms by which its cuts can be written."""
    rnd = random.Random(seed)

    def template(depth):
        if depth == 0:
            return rnd.choice([YES, NO])
        return ("if", ("part", rnd.randrange(4)), template(depth - 1), template(depth - 1))

    others = (form("pick", 0, 3, None, ("if", P0, P1, P2)), NOPE, form("fine", 0, 0, None, YES), form("bad", 0, 0, None, NO))
    return book(*others, form("wide", 0, 4, None, template(4)))


def small_writings(told, lot, parts, most):
    """List all writings up to a size, or some of them if they are many."""
    sized = {1: [("part", i) for i in range(parts)] + [own(one[1]) for one in told[2] if one[1] in lot and one[3] == 0]}
    for many in range(2, most + 1):
        sized[many] = []
        for one in told[2]:
            if one[1] in lot and one[3]:
                for sizes in itertools.product(range(1, many), repeat=one[3]):
                    if sum(sizes) == many - 1:
                        below = list(itertools.islice(itertools.product(*[sized[k] for k in sizes]), 60))
                        sized[many].extend([own(one[1], [], parts_of) for parts_of in below])
    return [one for many in range(1, most + 1) for one in sized[many][:120]]


class Lots(unittest.TestCase):
    def test_calls(self):
        bad = [("book", None, BadBook)] + [("names", one, BadLot) for one in BAD_LOTS]
        for function in (needless, bases):
            check_calls(self, function, {"book": BOOK117, "names": LOT}, bad)
        check_calls(self, least_lots, {"book": BOOK117, "names": LOT, "name": "nope"}, bad + [("name", one, BadForm) for one in ("either", "none", None, 1, ["nope"])])

    def test_example(self):
        every = ("either", "both", "nope")
        self.assertEqual(needless(BOOK117, every), ("both", "either"))
        self.assertEqual(least_lots(BOOK117, every, "either"), [("both", "nope")])
        self.assertEqual(least_lots(BOOK117, every, "nope"), [])
        self.assertEqual(bases(BOOK117, every), [("both", "nope"), ("either", "nope")])
        self.assertEqual(needless(BOOK117, ("both",)), ())
        self.assertEqual(bases(BOOK117, ("both",)), [("both",)])
        self.assertEqual(bases(BOOK117, ()), [()])
        # A form that does its part alone is written by the part itself.
        told = book(form("same", 0, 1, None, P0), form("same", 0, 1, None, P0)[:1] + ("again",) + form("same", 0, 1, None, P0)[2:])
        self.assertEqual(needless(told, ("same", "again")), ("again", "same"))
        self.assertEqual(least_lots(told, ("same", "again"), "same"), [()])
        self.assertEqual(bases(told, ("same", "again")), [()])

    def test_plain_way(self):
        """What a lot writes is written by each greater one, and a name left out of a least lot is missed ([114])."""
        several = 0
        for seed in range(120):
            told = naivetrees.bare_book(seed)
            names = tuple([one[1] for one in told[2]][::-1])
            parts = {one[1]: one[3] for one in told[2]}
            try:
                found = needless(told, names)
            except TooMany:
                continue

            def writes(lot, word):
                return least_writing(told, tuple(lot), parts[word], tree_of(told, word)) is not None

            def all_least(pool, words):
                least = []
                for many in range(len(pool) + 1):
                    for lot in itertools.combinations(pool, many):
                        if not any(set(one) <= set(lot) for one in least) and all(writes(lot, word) for word in words):
                            least.append(lot)
                return least

            self.assertEqual(found, tuple(sorted(word for word in names if writes([one for one in names if one != word], word))))
            for word in names:
                self.assertEqual(least_lots(told, names, word), all_least([one for one in sorted(names) if one != word], [word]), (seed, word))
            lots = all_least(sorted(names), names)
            self.assertEqual(bases(told, names), lots)
            several += len(lots) > 1
            for lot in lots:
                self.assertTrue(all(writes(names, word) for word in names))
                for one in lot:
                    self.assertFalse(all(writes([other for other in lot if other != one], word) for word in names))
        self.assertGreater(several, 5)


class Carrying(unittest.TestCase):
    def test_calls(self):
        other = book(BOTH, NOPE)
        good = {"one": BOOK117, "other": other, "names": ("either",)}
        bad = [("one", None, BadBook), ("other", None, BadBook)] + [("names", one, BadLot) for one in BAD_LOTS]
        check_calls(self, carried, good, bad)
        e = own("either", [], [YES, NO])
        bad += [("e", one, BadExpression) for one in ODDITIES if one != ASK] + [("e", one, BadExpression) for one in (own("both", [], [YES, NO]), own("either", [], [YES]), own("either", [], [YES, own("nope", [], [NO])]))]
        check_calls(self, carry, {**good, "e": e}, bad)
        celled = book(EITHER, cells=("c", "d"))
        for cell, fine in (("c", True), ("d", False)):
            e = ("then", ("set", cell, num(1)), own("either", [], [("less", ("get", cell), num(1)), NO]))
            if fine:
                self.assertTrue(carry(celled, book(BOTH, NOPE, cells=("e", "c")), ("either",), e))
            else:
                with self.assertRaises(BadExpression):
                    carry(celled, book(BOTH, NOPE, cells=("e", "c")), ("either",), e)

    def test_carried(self):
        found = carried(BOOK117, book(BOTH, NOPE), ("either", "nope", "both"))
        self.assertEqual(found, {"either": own("nope", [], [own("both", [], [own("nope", [], [P0]), own("nope", [], [P1])])]), "nope": own("nope", [], [P0]), "both": own("both", [], [P0, P1])})
        self.assertEqual(carried(BOOK117, book(BOTH), ("either", "both")), {"either": None, "both": own("both", [], [P0, P1])})
        # All bare forms of the other book are taken, and no others.
        self.assertEqual(carried(BOOK117, book(form("named", 1, 1, None, P0), form("either", 0, 2, None, ("if", P0, YES, P1))), ("either",)), {"either": own("either", [], [P0, P1])})
        self.assertEqual(carried(BOOK117, book(), ()), {})

    def test_errors_of_carry(self):
        told = book(BOTH, EITHER, NOPE)
        e = ("pair", own("both", [], [own("either", [], [YES, NO]), own("nope", [], [NO])]), own("nope", [], [YES]))
        for other, word in ((book(), "both"), (book(BOTH), "either"), (book(BOTH, EITHER), "nope"), (book(NOPE), "both")):
            with self.assertRaises(NotWritten) as caught:
                carry(told, other, ("nope", "both", "either"), e)
            self.assertEqual(caught.exception.name, word)
        # A form that is not written and does not stand there is no matter.
        self.assertEqual(carry(told, book(NOPE), ("nope", "both"), own("nope", [], [YES])), own("nope", [], [YES]))
        copies = book(form("copy", 0, 2, None, ("if", P0, P1, P1)))
        from_one = book(form("long", 0, 1, None, ("if", P0, P0, P0)))
        found = carried(from_one, copies, ("long",))["long"]
        self.assertEqual(found, own("copy", [], [P0, P0]))
        e = YES
        for k in range(7):
            e = own("long", [], [e])
        # 2 to the 8th less 1 nodes; one level more is too much.
        self.assertEqual(len(nodes_of(carry(from_one, copies, ("long",), e))), 255)
        with self.assertRaises(TooMany) as caught:
            carry(from_one, copies, ("long",), own("long", [], [e]))
        self.assertEqual(caught.exception.most, 400)

    def test_showings(self):
        """What is carried over shows the same ([115])."""
        carried_over = 0
        for seed in range(120):
            told, other = naivetrees.bare_book(seed), naivetrees.bare_book(seed + 1000)
            rnd = random.Random(seed)
            other = ("book", (), other[2] + tuple(one[:1] + ("g" + one[1],) + one[2:] for one in told[2] if rnd.random() < 0.6))
            names = tuple(one[1] for one in told[2])
            try:
                found = carried(told, other, names)
            except TooMany:
                continue
            for word in names:
                if found[word] is not None:
                    tree = tree_of(told, word)
                    lot = tuple(one[1] for one in other[2])
                    parts = [one[3] for one in told[2] if one[1] == word][0]
                    self.assertEqual(tree_written(other, lot, parts, found[word]), tree)
            e = program(rnd, told, 3)
            try:
                new = carry(told, other, names, e)
            except (NotWritten, TooMany):
                continue
            self.assertTrue(is_closed(other, new))
            for inputs in ([], [0, 5] * 20, [5] * 30, [rnd.choice([0, 5]) for _ in range(30)]):
                try:
                    self.assertEqual(run(told, e, inputs, 60), run(other, new, inputs, 60))
                except TooMany:
                    pass
            carried_over += 1
        self.assertGreater(carried_over, 20)


def program(rnd, told, depth):
    """Make a program of uses of bare forms, whose parts are truths."""
    roll = rnd.random()
    if depth == 0 or roll < 0.2:
        return rnd.choice([YES, NO, ("less", ASK, num(1)), ("then", ("show", num(4)), YES)])
    if roll < 0.35:
        return ("let", "x", program(rnd, told, depth - 1), ("if", name("x"), program(rnd, told, depth - 1), name("x")))
    one = rnd.choice(told[2])
    return own(one[1], [], [program(rnd, told, depth - 1) for _ in range(one[3])])


if __name__ == "__main__":
    unittest.main()
