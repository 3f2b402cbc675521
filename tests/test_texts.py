"""Notations, readings, what can stand, exchanging nodes in texts, brackets, clear lots."""

import itertools
import random
import unittest

import naivetexts

from formrules.books import is_expression
from formrules.brackets import apart, brackets, is_settled, quarrels, text_of
from formrules.clear import rival_text
from formrules.errors import BadBook, BadExpression, BadHeads, BadNotation, BadPath, BadPaths, BadText
from formrules.patches import put, span
from formrules.patterns import is_notation
from formrules.reading import can_follow, read
from formrules.readings import readings_many, rivals
from formrules.shapes import nodes_of
from formrules.words import KEPT

from calls import check_calls
from fixtures import ASK, B0, B1, BOOK32, H0, NO, ODDITIES, P0, P1, P2, R0, YES, book, form, name, num, own
from small import Maker

N32 = ((P0, "*", P1), ("TWICE", B0, "=", P0, ":", P1), ("SWAP", P0, "/", P1, "!"))
X, Y, Z = name("x"), name("y"), name("z")
E28 = ("plus", ("show", ("plus", X, Y)), Z)
# Where an expression is due, in the book of [32], which has no cells.
DUE = tuple(sorted([str(n) for n in range(8)] + ["yes", "no", "a name", "(", "SWAP", "TWICE", "let", "pair", "first", "second", "if", "while", "show", "ask", "fail", "try"]))
BEHIND = ("*", "less", "next", "plus")
# A book with rows and names: its patterns are open in front, behind, on both sides, or closed.
ROWED = form("rowed", 1, 1, (1, 2), P0, ("rest",))
BOOKR = book(ROWED, form("after", 0, 1, None, P0), form("now", 0, 0, None, num(1)), form("names", 2, 1, None, P0), cells=("c", "d"))
NR = (("ROW", B0, ("rows", ("+", R0, H0, "-", ("here", 1)), "END"), P0), (P0, "!"), ("NOW",), ("NAMES", B1, B0, P0, "?"))


def ends_at(sign):
    """Give the notation of one form that has just one part, with a sign behind it."""
    return ((P0, sign),)


class Notations(unittest.TestCase):
    def test_calls(self):
        check_calls(self, is_notation, {"book": BOOK32, "thing": N32}, [("book", None, BadBook), ("book", (), BadBook)])

    def test_patterns(self):
        self.assertTrue(is_notation(BOOK32, N32))
        self.assertTrue(is_notation(BOOKR, NR))
        self.assertTrue(is_notation(book(), ()))
        for thing in ODDITIES + [N32[:2], N32 + (("A",),), list(N32), (list(N32[0]),) + N32[1:], (N32[1], N32[0], N32[2])]:
            if thing != ():
                self.assertFalse(is_notation(BOOK32, thing), thing)
        two = book(form("two", 1, 2, None, P0))
        for pattern in [("A", B0, P0, "B", P1), (P0, "A", P1, "B", B0), ("A", "B", B0, P1, "C", P0), (P1, "A", B0, P0), ("A", B0, "B", P0, "C", "D", P1, "E"), ("A", P0, "*!+-/:<", B0, P1), ("ABCDEFGH", P1, "?", P0, "Z", B0)]:
            self.assertTrue(is_notation(two, (pattern,)), pattern)
        for pattern in [
            (), ("A",), ("A", B0, P0), ("A", P0, P1, B0), ("A", B0, P0, "B", P1, "C", P1), ("A", B0, B0, P0, "B", P1), ("A", B0, P0, P1), (P0, P1, "A", B0), (B0, "A", P0, "B", P1), (P0, B0, "A", P1),
            ("A", B0, P0, "A", P1), ("a", B0, P0, "B", P1), ("ABCDEFGHI", B0, P0, "B", P1), ("", B0, P0, "B", P1), ("(", B0, P0, "B", P1), ("A", ("bind", 1), P0, "B", P1), ("A", B0, P0, "B", P2),
            ("A", B0, ("part", False), "B", P1), ("A", B0, H0, "B", P1), ("A", R0, P0, "B", P1), ("A", B0, P0, "B", P1, ("rows", ("C",), "D")), ("A", B0, P0, "B", P1, None), ("A", B0, P0, "B", P1, 1), ("A", B0, P0, "B", P1, ["C"]),
            ("A", B0, P0, "B", P1, ("part", 0, 1)), ("A", P0, B0, "B", P1), ["A", B0, P0, "B", P1],
        ]:
            self.assertFalse(is_notation(two, (pattern,)), pattern)
        # No sign stands twice in a notation, those of rows counted.
        ones = book(form("one", 0, 1, None, P0), form("two", 0, 1, None, P0))
        self.assertTrue(is_notation(ones, (("A", P0), ("B", P0))))
        self.assertFalse(is_notation(ones, (("A", P0), (P0, "A"))))

    def test_rows(self):
        told = book(form("one", 0, 1, (1, 2), P0, P0))
        rows = ("+", R0, H0, "-", ("here", 1))
        for pattern in [("A", ("rows", rows, "B"), P0), ("A", P0, ("rows", rows, "B")), (P0, "A", ("rows", rows, "B"), "C"), ("A", P0, "C", ("rows", ("+", "*", H0, "-", ("here", 1), "/", R0, "D"), "B")), ("A", ("rows", ("+", ("here", 1), "-", R0, H0), "B"), P0)]:
            self.assertTrue(is_notation(told, (pattern,)), pattern)
        for pattern in [
            ("A", P0), ("A", ("rows", rows, "B"), ("rows", rows, "C"), P0), ("A", ("rows", rows, "A"), P0), ("A", ("rows", rows, "+"), P0), ("A", ("rows", rows, "b"), P0), ("A", ("rows", rows), P0), ("A", ("rows", list(rows), "B"), P0),
            ("A", ("rows", rows[1:], "B"), P0), ("A", ("rows", (), "B"), P0), ("A", ("rows", ("+", R0, H0), "B"), P0), ("A", ("rows", ("+", R0, H0, ("here", 1)), "B"), P0), ("A", ("rows", ("+", H0, R0, "-", ("here", 1)), "B"), P0),
            ("A", ("rows", ("+", R0, R0, H0, "-", ("here", 1)), "B"), P0), ("A", ("rows", rows + (P0,), "B")), ("A", ("rows", rows + (("rows", ("C",), "D"),), "B"), P0), (P0, ("rows", rows, "B")), (("rows", rows, "B"), "A", P0),
            ("A", R0, ("rows", rows, "B"), P0), ("A", ("rows", ("+", R0, H0, "-", ("here", 2)), "B"), P0),
        ]:
            self.assertFalse(is_notation(told, (pattern,)), pattern)
        none = book(form("one", 0, 0, (0, 0), num(1), num(1)))
        self.assertTrue(is_notation(none, (("A", ("rows", ("B",), "C")),)))
        self.assertFalse(is_notation(none, (("A",),)))
        self.assertFalse(is_notation(none, ((("rows", ("B",), "C"),),)))


def check_texts(test, function, more):
    """Hold a function against the errors of read; more has its other parameters."""
    good = {"book": BOOK32, "notation": N32, "text": "x * y", **more}
    bad = [("book", None, BadBook), ("notation", None, BadNotation), ("notation", N32[:2], BadNotation), ("notation", list(N32), BadNotation)]
    check_calls(test, function, good, bad + [("text", one, BadText) for one in (None, 1, b"x", ["x"], "x\ty", "x \x7f", "\xe9", ())])
    for one in (None, 1, "x\ty"):
        with test.assertRaises(BadText) as caught:
            function(**{**good, "text": one})
        test.assertEqual((caught.exception.at, caught.exception.wanted), (None, None))


class Readings(unittest.TestCase):
    def test_errors(self):
        check_texts(self, readings_many, {})
        check_texts(self, rivals, {})

    def test_example(self):
        """[28]."""
        self.assertEqual(readings_many(BOOK32, N32, "show x * y"), 2)
        both = {own("both", [], [("show", X), Y]), ("show", own("both", [], [X, Y]))}
        self.assertEqual(set(rivals(BOOK32, N32, "show x * y")), both)
        self.assertEqual(readings_many(BOOK32, N32, "TWICE a = ask : x plus a"), 2)
        self.assertEqual(readings_many(BOOK32, N32, "SWAP x / show y ! plus 1"), 1)
        self.assertIsNone(rivals(BOOK32, N32, "SWAP x / show y ! plus 1"))

    def test_no_readings(self):
        for text in ("", "x y", "( x", "x )", "plus x", "x plus", "show", "8", "if x then y", "get c", "put x into c", "TWICE a = x", "a name", "FOO x", "( )", "let 1 be x in y", "fail if", "rest", "part 0", "bind 0", "x plus ( y", "12"):
            self.assertEqual(readings_many(BOOK32, N32, text), 0, text)
            self.assertIsNone(rivals(BOOK32, N32, text))
        # A use with a name twice is told by no text.
        self.assertEqual(readings_many(BOOKR, NR, "NAMES x x 1 ?"), 0)
        self.assertEqual(readings_many(BOOKR, NR, "NAMES x y 1 ?"), 1)
        self.assertEqual(readings_many(BOOKR, NR, "ROW x + x 1 - 2 END 3"), 0)
        self.assertEqual(readings_many(BOOKR, NR, "get c plus get d"), 1)
        self.assertEqual(readings_many(BOOKR, NR, "get e"), 0)

    def test_brackets(self):
        # Around any node, more than once; no part of what is told.
        for text in ("( x )", "( ( ( x ) ) )", "( ( x ) plus ( ( y ) ) )", "( " * 60 + "x" + " )" * 60):
            self.assertEqual(readings_many(BOOK32, N32, text), 1)
        self.assertEqual(read(BOOK32, N32, "( ( x ) )"), X)
        self.assertEqual(readings_many(BOOK32, N32, "( show x * y ) plus ( show x * y )"), 4)
        # Somewhat beyond the limits nothing is refused.
        self.assertEqual(readings_many(BOOK32, N32, "( " * 80 + "x" + " )" * 80), 1)
        self.assertEqual(read(BOOK32, N32, "show " * 90 + "x")[0], "show")

    def test_exact(self):
        """readings_many is exact, however many there are."""
        catalan = [1]
        for n in range(40):
            catalan.append(catalan[-1] * 2 * (2 * n + 1) // (n + 2))
            self.assertEqual(readings_many(BOOK32, N32, "x" + " plus x" * (n + 1)), catalan[n + 1])
        self.assertEqual(readings_many(BOOK32, N32, "if x plus x plus x then y next y next y else show z * z"), 2 * 2 * 3)
        self.assertEqual(readings_many(BOOKR, NR, "show show x ! !"), 6)
        self.assertEqual(readings_many(BOOKR, NR, "ROW a + b x plus x plus x - 1 END 2 ! plus 3"), 2 * 3)

    def test_rivals_of_inner_stretches(self):
        for text in ("SWAP x plus y plus z / 1 !", "( x plus y plus z ) less 1", "ROW a + b x plus x plus x - 1 END 2", "SWAP ( show x * y ) / 1 !"):
            told = (BOOKR, NR) if text.startswith("ROW") else (BOOK32, N32)
            one, other = rivals(*told, text)
            found = naivetexts.Readings(*told, tuple(text.split())).readings()
            self.assertTrue(one != other and one in found and other in found)

    def test_all_ways(self):
        """Readings told by trying all ways; legal exactly if no mark open behind stands ahead of one open in front ([22])."""
        tally = {0: 0, 1: 0, 2: 0}
        rnd = random.Random(4)
        for seed in range(60):
            told, notation, maker = notated(seed)
            words = naivetexts.vocabulary(told, notation)
            for _ in range(8):
                if rnd.random() < 0.3:
                    text = [rnd.choice(words) for _ in range(rnd.randint(1, 6))]
                else:
                    e = maker.expression(told, 2)
                    text = [word for word in text_of(told, notation, e).split() if word not in "()"]
                if len(text) > 12:
                    continue
                found = naivetexts.Readings(told, notation, tuple(text)).readings()
                text = " ".join(text)
                self.assertEqual(readings_many(told, notation, text), len(found), (told, notation, text))
                pair = rivals(told, notation, text)
                if len(found) < 2:
                    self.assertIsNone(pair)
                else:
                    self.assertTrue(pair[0] != pair[1] and pair[0] in found and pair[1] in found)
                try:
                    self.assertEqual((read(told, notation, text),), found)
                except BadText:
                    self.assertNotEqual(len(found), 1)
                tally[min(len(found), 2)] += 1
        self.assertTrue(min(tally.values()) > 10, tally)


def notated(seed):
    """Give a small book, a notation of it, and a maker of expressions."""
    maker = Maker(seed, cells=("c",) if seed % 2 else ())
    if not maker.cells:
        maker.heads = [head for head in maker.heads if head not in ("get", "set")]
    told = maker.book(maker.random.choice([0, 1, 2, 3]))
    return told, naivetexts.notation(told, seed), maker


class Reading(unittest.TestCase):
    def refused(self, told, text):
        with self.assertRaises(BadText) as caught:
            read(*told, text)
        return caught.exception.at, caught.exception.wanted

    def test_errors(self):
        check_texts(self, can_follow, {})
        check_texts(self, read, {})

    def test_example(self):
        """[28]."""
        told = BOOK32, N32
        self.assertEqual(self.refused(told, "show x * y"), (2, ("the end",)))
        with self.assertRaises(BadText) as caught:
            can_follow(*told, "show x * y")
        self.assertEqual((caught.exception.at, caught.exception.wanted), (2, ("the end",)))
        self.assertEqual(can_follow(*told, "SWAP x / show y"), ("!",))
        self.assertEqual(self.refused(told, "SWAP x / show y"), (5, ("!",)))
        self.assertEqual(read(*told, "( show ( x plus y ) ) plus z"), E28)

    def test_where_an_expression_is_due(self):
        for text in ("", "(", "( (", "show", "let x be", "let x be 1 in", "if", "if x then", "if x then y else", "try", "try x upon w use", "x plus", "x * y *" if False else "x *", "TWICE a =", "TWICE a = x :", "SWAP", "SWAP x /", "pair x with", "while x do", "first", "second"):
            self.assertEqual(can_follow(BOOK32, N32, text), DUE, text)
        # get and put only if the book has cells.
        rows = tuple(sorted([str(n) for n in range(8)] + ["yes", "no", "a name", "(", "ROW", "NOW", "NAMES", "let", "pair", "first", "second", "if", "while", "show", "ask", "fail", "try", "get", "put"]))
        for text in ("", "put", "ROW a + b", "ROW a + b 1 -", "ROW a END", "NAMES a b"):
            self.assertEqual(can_follow(BOOKR, NR, text), rows, text)

    def test_behind_an_expression(self):
        cases = {
            "x": BEHIND + ("the end",), "( x": BEHIND + (")",), "( x )": BEHIND + ("the end",), "x plus y": ("the end",), "show x": ("the end",), "( show x": (")",), "( show x )": BEHIND + ("the end",),
            "if x": BEHIND + ("then",), "if show x": ("then",), "if x then y": BEHIND + ("else",), "if x then y else z": ("the end",), "let x be y": BEHIND + ("in",), "try x": BEHIND + ("upon",), "try x plus y": ("upon",),
            "SWAP x": BEHIND + ("/",), "SWAP x / y": BEHIND + ("!",), "SWAP x / y !": BEHIND + ("the end",), "pair x with y": ("the end",), "pair x": BEHIND + ("with",), "while x": BEHIND + ("do",), "7": BEHIND + ("the end",), "ask": BEHIND + ("the end",),
            "fail w": BEHIND + ("the end",), "yes": BEHIND + ("the end",), "x plus ( y next z )": ("the end",), "TWICE a = x": BEHIND + (":",), "( ( x ) plus ( y ) )": BEHIND + ("the end",),
        }
        for text, wanted in cases.items():
            self.assertEqual(can_follow(BOOK32, N32, text), tuple(sorted(wanted)), text)

    def test_names_cells_and_words_within_nodes(self):
        cases = {
            "let": ("a name",), "fail": ("a name",), "TWICE": ("a name",), "try x upon": ("a name",), "let x": ("be",), "try x upon w": ("use",), "TWICE x": ("=",),
        }
        for text, wanted in cases.items():
            self.assertEqual(can_follow(BOOK32, N32, text), wanted, text)
        behind = ("!", "less", "next", "plus")
        cases = {
            "get": ("c", "d"), "put x into": ("c", "d"), "put x": behind + ("into",), "ROW": ("a name",), "ROW a": ("+", "END"), "ROW a +": ("a name",), "ROW a + b 1": behind + ("-",), "ROW a + b 1 - 2": behind + ("+", "END"),
            "ROW a + b 1 - show 2": ("+", "END"), "ROW a + b 1 - 2 + c 3 - 4": behind + ("+", "END"), "ROW a END 1": ("the end",), "NOW": behind + ("the end",), "x !": behind + ("the end",), "NAMES": ("a name",), "NAMES a": ("a name",), "NAMES a b 1": behind + ("?",),
            "get c": behind + ("the end",), "put 1 into d": behind + ("the end",),
        }
        for text, wanted in cases.items():
            self.assertEqual(can_follow(BOOKR, NR, text), tuple(sorted(wanted)), text)

    def test_refused(self):
        told = BOOKR, NR
        # A name that the use has already cannot stand, nor can kept words and other words.
        for text, at, wanted in (
            ("NAMES a a", 2, ("a name",)), ("ROW a + a", 3, ("a name",)), ("ROW a + b 1 - 2 + b", 8, ("a name",)), ("let if", 1, ("a name",)), ("let a be 1 in let a be", 8, None), ("get e", 1, ("c", "d")), ("get x", 1, ("c", "d")),
            ("put 1 into a", 3, ("c", "d")), ("fail abcdefghi", 1, ("a name",)), ("ROW a -", 2, ("+", "END")), ("let X", 1, ("a name",)), ("let a is", 2, ("be",)), ("ROW a END ROW a", 5, ("+", "END")),
        ):
            found = self.refused(told, text)
            self.assertEqual(found[0], at, text)
            if wanted is not None:
                self.assertEqual(found[1], wanted)
        self.assertEqual(self.refused((BOOK32, N32), "x plus 8"), (2, DUE))
        self.assertEqual(self.refused((BOOK32, N32), "get c"), (0, DUE))
        self.assertEqual(self.refused((BOOK32, N32), ""), (0, DUE))
        self.assertEqual(self.refused((BOOK32, N32), "  \n "), (0, DUE))
        self.assertEqual(self.refused((BOOK32, N32), "x )"), (1, tuple(sorted(BEHIND + ("the end",)))))
        self.assertEqual(self.refused((BOOK32, N32), "x y z"), (1, tuple(sorted(BEHIND + ("the end",)))))
        self.assertEqual(self.refused((BOOK32, N32), "x plus y less z"), (3, ("the end",)))
        self.assertEqual(self.refused((BOOK32, N32), "( x plus y"), (4, (")",)))

    def test_lines_mean_nothing(self):
        self.assertEqual(read(BOOK32, N32, "\n x \n\n  plus\ny   "), ("plus", X, Y))
        self.assertEqual(read(BOOKR, NR, "ROW a + b 1 - 2 + c 3 - 4 END get d"), own("rowed", ["a"], [("get", "d")], [(["b"], [num(1), num(2)]), (["c"], [num(3), num(4)])]))
        self.assertEqual(read(BOOKR, NR, "NAMES x y z ? !"), own("after", [], [own("names", ["y", "x"], [Z])]))
        self.assertEqual(read(BOOKR, NR, "put 1 into c next fail w"), ("then", ("set", "c", num(1)), ("fail", "w")))
        self.assertEqual(read(BOOKR, NR, "try x upon w use y"), ("catch", "w", X, Y))

    def test_words_that_can_stand(self):
        """They can be gone on from to a whole legal text, and no other one can ([23])."""
        completed, refused = 0, 0
        for seed in range(40):
            told, notation, maker = notated(seed)
            words = naivetexts.vocabulary(told, notation)
            closing = [word for word in words if word not in ("plus", "less", "next") and word not in [pattern[1] for pattern in notation if not isinstance(pattern[0], str)]]
            for _ in range(2):
                e = maker.expression(told, 2)
                text = text_of(told, notation, e).split()
                at = maker.random.randint(0, len(text))
                wanted = can_follow(told, notation, " ".join(text[:at]))
                self.assertEqual(list(wanted), sorted(set(wanted)))
                if at < 7:
                    self.assertEqual("the end" in wanted, len(naivetexts.Readings(told, notation, tuple(text[:at])).readings()) == 1)
                for word in words:
                    named = "a name" in wanted and naivetexts.is_name(word)
                    try:
                        can_follow(told, notation, " ".join(text[:at] + [word]))
                    except BadText as error:
                        self.assertEqual((error.at, error.wanted), (at, wanted))
                        # Only a name that the use has already is none that can stand where names can.
                        self.assertTrue(word not in wanted and (not named or word in text))
                        refused += 1
                        if len(text) < 5 and maker.random.random() < 0.03:
                            for more in itertools.chain([()], itertools.product(words, repeat=1)):
                                whole = tuple(text[:at]) + (word,) + more
                                self.assertNotEqual(len(naivetexts.Readings(told, notation, whole).readings()), 1, whole)
                        continue
                    self.assertTrue(word in wanted or named)
                    whole = completion(told, notation, text[:at] + [word], closing)
                    self.assertEqual(readings_many(told, notation, " ".join(whole)), 1)
                    completed += 1
        self.assertGreater(completed, 200)
        self.assertGreater(refused, 500)


def completion(told, notation, words, closing):
    """Go on from words to a whole text, as short as can be."""
    found = list(words)
    rnd = random.Random(len(words))
    while True:
        wanted = can_follow(told, notation, " ".join(found))
        if "the end" in wanted:
            return found
        if "0" in wanted:
            found.append("0")
        elif "a name" in wanted:
            found.append("q" + "".join("abcdefgh"[len(found) // times % 8] for times in (1, 8, 64)))
        else:
            # Where a row may begin or the rows may end, now the one and now the other is taken.
            found.append(rnd.choice([word for word in wanted if word in closing]))


class Patches(unittest.TestCase):
    def test_errors(self):
        check_texts(self, span, {"path": ()})
        check_texts(self, put, {"path": (), "rows": "x"})
        for function, more in ((span, {}), (put, {"rows": "x"})):
            good = {"book": BOOK32, "notation": N32, "text": "x * y", "path": (3, 1), **more}
            bad = [("text", None, BadText)] + [("path", one, BadPath) for one in (None, 1, "31", [3, 1], (3,), (1,), (3, 2), (3, 1, 1), (0,), (3, True), (-1,), (3, -1), (2, 0), ("3",), (4, 0, 1, 0))]
            check_calls(self, function, good, bad + ([("rows", one, BadText) for one in (None, 1, "x\ty", "", "x plus", "x plus y plus z")] if more else []))
            for text, at in (("x plus y plus z", 3), ("x plus", 2), ("", 0)):
                with self.assertRaises(BadText) as caught:
                    function(**{**good, "text": text, "path": None})
                self.assertEqual(caught.exception.at, at)
        # The errors of rows have indexes in rows.
        with self.assertRaises(BadText) as caught:
            put(BOOK32, N32, "( x * y ) * z", (3, 0), "a * b )")
        self.assertEqual((caught.exception.at, caught.exception.wanted), (3, ("the end",)))

    def test_spans(self):
        text = "( show ( x plus y ) ) plus z"
        for path, found in (((), (0, 10)), ((1,), (1, 7)), ((1, 1), (3, 6)), ((1, 1, 1), (3, 4)), ((1, 1, 2), (5, 6)), ((2,), (9, 10))):
            self.assertEqual(span(BOOK32, N32, text, path), found)
        # The brackets of a node are not of its span, those of its first and last part are.
        self.assertEqual(span(BOOK32, N32, "( ( ( x ) plus ( y ) ) )", ()), (2, 9))
        self.assertEqual(span(BOOKR, NR, "ROW a + b ( 1 ) - 2 ! + c 3 - 4 END get d", (4, 0, 1, 1)), (8, 10))
        self.assertEqual(span(BOOKR, NR, "ROW a + b ( 1 ) - 2 ! + c 3 - 4 END get d", (4, 0, 1, 0)), (5, 6))
        self.assertEqual(span(BOOKR, NR, "ROW a + b 1 - 2 + c 3 - 4 END get d", (4, 1, 1, 0)), (9, 10))
        self.assertEqual(span(BOOKR, NR, "ROW a + b 1 - 2 END get d", (3, 0)), (8, 10))

    def test_put(self):
        for text, path, rows, found in (
            ("x  plus\ny", (2,), " a\nplus b", "x plus ( a plus b )"), ("x plus y", (1,), "a plus b", "( a plus b ) plus y"), ("x plus y", (1,), "( a plus b )", "( a plus b ) plus y"), ("x plus y", (), "a plus b", "a plus b"),
            ("( x ) plus y", (1,), "a plus b", "( a plus b ) plus y"), ("SWAP x / y !", (3, 0), "a plus b", "SWAP a plus b / y !"), ("show x", (1,), "show y", "show show y"), ("show x", (1,), "y plus z", "show ( y plus z )"),
            ("( show x ) plus z", (1, 1), "( y ) plus z", "( show ( ( y ) plus z ) ) plus z"), ("if x then y else z", (3,), "a next b", "if x then y else ( a next b )"), ("if x then y else z", (2,), "a next b", "if x then a next b else z"),
        ):
            self.assertEqual(put(BOOK32, N32, text, path, rows), found)

    def test_exchanged(self):
        """What is told is the expression with the node exchanged; one pair of brackets is always enough ([24])."""
        bracketed = 0
        for seed in range(70):
            told, notation, maker = notated(seed)
            e, new = maker.expression(told, 3), maker.expression(told, 2)
            if len(nodes_of(e)) > 80:
                continue
            text, rows = text_of(told, notation, e), text_of(told, notation, new)
            for path, node in maker.random.sample(nodes_of(e), min(4, len(nodes_of(e)))):
                first, last = span(told, notation, text, path)
                self.assertEqual(read(told, notation, " ".join(text.split()[first:last])), node)
                expected = exchanged(e, path, new)
                if not is_expression(told, expected):
                    continue
                found = put(told, notation, text, path, rows)
                self.assertEqual(read(told, notation, found), expected)
                words = text.split()
                plain = " ".join(words[:first] + rows.split() + words[last:])
                self.assertEqual(found == plain, readings_many(told, notation, plain) == 1)
                bracketed += found != plain
        self.assertGreater(bracketed, 20)


def exchanged(thing, path, new):
    if not path:
        return new
    return thing[:path[0]] + (exchanged(thing[path[0]], path[1:], new),) + thing[path[0] + 1:]


class Brackets(unittest.TestCase):
    def test_errors(self):
        good = {"book": BOOK32, "notation": N32, "e": E28}
        bad = [("book", None, BadBook), ("notation", None, BadNotation)] + [("e", one, BadExpression) for one in ODDITIES if one != ASK] + [("e", ("get", "c"), BadExpression), ("e", own("none"), BadExpression)]
        for function in (quarrels, text_of, brackets, apart):
            check_calls(self, function, good, bad)
        some = [("some", one, BadPaths) for one in (None, 1, [()], ((1,), ()), ((), ()), ((3,),), ((1, 1, 1, 1),), (1,), ((True,),), (None,), ("",), ((1,), (2,), (1, 1)))]
        check_calls(self, is_settled, {**good, "some": ((1,), (1, 1))}, bad + some)

    def test_example(self):
        """[28]."""
        self.assertEqual(quarrels(BOOK32, N32, E28), (((), (1,)), ((), (1, 1)), ((1,), (1, 1))))
        self.assertEqual(text_of(BOOK32, N32, E28), "( show ( x plus y ) ) plus z")
        self.assertEqual(brackets(BOOK32, N32, E28), ((1,), (1, 1)))
        self.assertEqual(apart(BOOK32, N32, E28), (((), (1,)), ((1,), (1, 1))))
        for some, settled in (((), False), (((1,),), False), (((1, 1),), False), (((1,), (1, 1)), True), (((), (1,), (1, 1)), True), (((), (1,), (2,)), False), (((1,), (1, 1), (1, 1, 1), (2,)), True)):
            self.assertIs(is_settled(BOOK32, N32, E28, some), settled, some)

    def test_texts(self):
        for e, text in (
            (X, "x"), (num(7), "7"), (YES, "yes"), (ASK, "ask"), (("fail", "w"), "fail w"), (("plus", ("plus", X, Y), Z), "( x plus y ) plus z"), (("plus", X, ("plus", Y, Z)), "x plus ( y plus z )"), (("show", ("first", X)), "show first x"),
            (("plus", X, ("show", Y)), "x plus show y"), (("let", "x", ("plus", X, Y), ("plus", X, Y)), "let x be x plus y in ( x plus y )"), (("if", ("show", X), ("less", X, Y), ("then", X, Y)), "if show x then x less y else ( x next y )"),
            (("pair", ("pair", X, Y), ("pair", X, Y)), "pair pair x with y with pair x with y"), (("catch", "w", ("then", X, Y), ("show", X)), "try x next y upon w use show x"), (("while", ("less", X, Y), ("plus", X, Y)), "while x less y do ( x plus y )"),
            (own("twice", ["a"], [("plus", X, Y), ("show", X)]), "TWICE a = x plus y : show x"), (own("swap", [], [("show", X), own("both", [], [X, Y])]), "SWAP show x / x * y !"), (own("both", [], [own("swap", [], [X, Y]), X]), "SWAP x / y ! * x"),
            (("second", ("pair", X, Y)), "second pair x with y"),
        ):
            self.assertEqual(text_of(BOOK32, N32, e), text)
            self.assertEqual(read(BOOK32, N32, text), e)
        for e, text in (
            (own("after", [], [own("after", [], [X])]), "x ! !"), (own("after", [], [("show", X)]), "( show x ) !"), (("show", own("after", [], [X])), "show ( x ! )"), (("plus", own("after", [], [X]), Y), "x ! plus y"), (("plus", X, own("after", [], [Y])), "x plus ( y ! )"),
            (own("rowed", ["a"], [own("after", [], [X])], [(["b"], [("show", X), ("plus", X, Y)]), (["c"], [X, Y])]), "ROW a + b show x - x plus y + c x - y END ( x ! )"), (own("rowed", ["a"], [X]), "ROW a END x"),
            (own("names", ["a", "b"], [("set", "c", ("plus", X, Y))]), "NAMES b a put x plus y into c ?"), (own("now"), "NOW"), (("set", "d", ("get", "c")), "put get c into d"), (own("after", [], [("plus", X, Y)]), "( x plus y ) !"),
        ):
            self.assertEqual(text_of(BOOKR, NR, e), text)
            self.assertEqual(read(BOOKR, NR, text), e)
        # A node at the edge of one without brackets counts, too.
        self.assertEqual(text_of(BOOKR, NR, ("show", ("first", own("after", [], [X])))), "show first ( x ! )")
        self.assertEqual(text_of(BOOKR, NR, ("plus", own("after", [], [("plus", X, Y)]), Z)), "( x plus y ) ! plus z")

    def test_small_books(self):
        """read(text_of(e)) is e, and no fewer brackets do ([25])."""
        unsettled, many = 0, 0
        for seed in range(90):
            told, notation, maker = notated(seed)
            e = maker.expression(told, 3)
            if len(nodes_of(e)) > 70:
                continue
            text = text_of(told, notation, e)
            found = brackets(told, notation, e)
            self.assertEqual(read(told, notation, text), e)
            self.assertEqual(text.split(), naive_words(told, notation, e, found))
            every = quarrels(told, notation, e)
            self.assertEqual(list(every), sorted(naive_quarrels(told, notation, e)))
            # The fewest brackets are the most quarrels apart.
            pairs = apart(told, notation, e)
            self.assertEqual(len(pairs), len(found))
            self.assertTrue(all(pair in every for pair in pairs))
            for one, other in itertools.combinations(pairs, 2):
                self.assertFalse(set(way_of(*one)) & set(way_of(*other)))
            many += len(found)
            paths = [path for path, _ in nodes_of(e)]
            for _ in range(4):
                some = tuple(sorted(set(maker.random.sample(paths, min(2, len(paths))) + [path for path in found if maker.random.random() < 0.8])))
                settled = is_settled(told, notation, e, some)
                self.assertEqual(settled, all(set(way_of(*pair)) & set(some) for pair in every))
                words = " ".join(naive_words(told, notation, e, some))
                self.assertEqual(settled, readings_many(told, notation, words) == 1)
                unsettled += not settled
        self.assertGreater(unsettled, 30)
        self.assertGreater(many, 60)


def way_of(above, below):
    """List the paths from just beneath a node down to one below it; steps are those to parts."""
    found = []
    at = len(above)
    while at < len(below):
        at += 2 if below[at] == 3 and is_use_step(below, at) else 4 if below[at] == 4 and is_use_step(below, at) else 1
        found.append(below[:at])
    return found


def is_use_step(path, at):
    """Tell whether a step leads into a use: only then it is one of 3, i, or of 4, k, 1, j."""
    return USES.get(path[:at], False)


# The paths to own uses of the expression that is looked at.
USES = {}


def naive_pieces(told, notation, path, node):
    """List the words of a node, pairs (path, part) for its parts among them."""
    USES[path] = node[0] == "own"
    if node[0] in ("number", "truth", "name"):
        return [str(node[1])]
    if node[0] == "own":
        at = [one[1] for one in told[2]].index(node[1])
        found = []
        for piece in notation[at]:
            if isinstance(piece, str):
                found.append(piece)
            elif piece[0] == "bind":
                found.append(node[2][piece[1]])
            elif piece[0] == "part":
                found.append((path + (3, piece[1]), node[3][piece[1]]))
            else:
                for k, (names, parts) in enumerate(node[4]):
                    for one in piece[1]:
                        found.append(one if isinstance(one, str) else names[one[1]] if one[0] == "row" else (path + (4, k, 1, one[1]), parts[one[1]]))
                found.append(piece[2])
        return found
    items = [(k, item) for k, item in enumerate(node) if k]
    parts = [(path + (k,), item) for k, item in items if isinstance(item, tuple)]
    others = [item for _, item in items if not isinstance(item, tuple)]
    found = []
    for word in naivetexts.CORE[node[0]].split():
        found.append(parts.pop(0) if word == "E" else others[0] if word in ("NAME", "CELL", "FAULT") else word)
    return found


def naive_words(told, notation, e, some):
    def go(path, node):
        words = []
        for piece in naive_pieces(told, notation, path, node):
            words += [piece] if isinstance(piece, str) else go(*piece)
        return ["("] + words + [")"] if path in some else words

    USES.clear()
    return go((), e)


def naive_quarrels(told, notation, e):
    """List all quarrels, from the words of [25]."""
    pieces = {path: naive_pieces(told, notation, path, node) for path, node in nodes_of(e)}
    first = {path: found[0][0] for path, found in pieces.items() if not isinstance(found[0], str)}
    last = {path: found[-1][0] for path, found in pieces.items() if not isinstance(found[-1], str)}

    def reached(path):
        found = [path]
        for edge in (first, last):
            if path in edge:
                found += reached(edge[path])
        return found

    found = {(above, below) for above in last for below in reached(last[above]) if below in first}
    return found | {(above, below) for above in first for below in reached(first[above]) if below in last}


class Clear(unittest.TestCase):
    def test_errors(self):
        good = {"book": BOOK32, "notation": N32, "heads": ["plus"]}
        bad = [("book", None, BadBook), ("notation", None, BadNotation)]
        bad += [("heads", one, BadHeads) for one in (None, 1, "plus", ["plus", "plus"], ["x"], ["then"], ["catch"], ["get"], ["put"], ["set"], [1], [["plus"]], ["else"], ["number"], ["ask", "none"], ["*"], {"plus": 1})]
        check_calls(self, rival_text, good, bad)
        self.assertEqual(rival_text(BOOK32, N32, ("plus",)), rival_text(**good))
        self.assertIsNone(rival_text(BOOKR, NR, ["get", "put"]))

    def test_lots(self):
        every = ["let", "pair", "first", "second", "plus", "less", "if", "while", "next", "get", "put", "show", "ask", "fail", "try", "rowed", "after", "now", "names"]
        behind = ["let", "pair", "first", "second", "plus", "less", "if", "while", "next", "show", "try", "rowed"]
        front = ["plus", "less", "next", "after"]
        rnd = random.Random(6)
        for heads in [[], every, behind, ["plus"], ["after"], ["after", "now", "names", "ask", "fail", "get", "put"], ["show", "first", "let"]] + [rnd.sample(every, rnd.randint(1, 4)) for _ in range(80)]:
            found = rival_text(BOOKR, NR, heads)
            # It is None exactly if not both sorts are among the heads ([26]).
            self.assertEqual(found is None, not (set(heads) & set(behind) and set(heads) & set(front)), heads)
            if found is not None:
                self.assertNotIn("(", found)
                self.assertEqual(readings_many(BOOKR, NR, found), 2)
                for e in rivals(BOOKR, NR, found):
                    self.assertTrue(all(head_of(node) in heads + ["atom"] for _, node in nodes_of(e)))

    def test_fewest_words(self):
        for heads, many in ((["plus"], 5), (["show", "after"], 3), (["show", "plus"], 4), (["rowed", "after"], 5), (["let", "after"], 7), (["if", "after", "pair"], 5), (["try", "less"], 5), (["try", "after"], 7), (["let", "after", "second"], 3), (["plus", "after"], 4)):
            self.assertEqual(len(rival_text(BOOKR, NR, heads).split()), many, heads)
        # No shorter text of these heads has two readings, told by trying all.
        small = book(form("after", 0, 1, None, P0), form("mid", 0, 3, None, P0))
        notation = ((P0, "!"), (P0, "A", P1, "B", P2))
        for heads in (["mid"], ["mid", "after"], ["mid", "show"]):
            found = rival_text(small, notation, heads).split()
            words = ["0"] + [word for head, used in (("mid", ["A", "B"]), ("after", ["!"]), ("show", ["show"])) if head in heads for word in used]
            for many in range(1, min(len(found), 6)):
                for text in itertools.product(words, repeat=many):
                    self.assertLess(readings_many(small, notation, " ".join(text)), 2)
            self.assertEqual(readings_many(small, notation, " ".join(found)), 2)


def head_of(node):
    if node[0] in ("number", "truth", "name"):
        return "atom"
    return node[1] if node[0] == "own" else {"then": "next", "set": "put", "catch": "try"}.get(node[0], node[0])


class Facts(unittest.TestCase):
    def test_longer_books(self):
        """By a longer book and notation a text tells what it told by the ones with which they begin ([27])."""
        for seed in range(40):
            told, notation, maker = notated(seed)
            if not told[2]:
                continue
            begun = ("book", told[1], told[2][:-1])
            e = maker.expression(begun, 3)
            text = text_of(begun, notation[:-1], e)
            self.assertEqual(text_of(told, notation, e), text)
            self.assertEqual(read(told, notation, text), e)

    def test_kept_words_are_no_names(self):
        for word in KEPT:
            self.assertEqual(readings_many(BOOK32, N32, word), 1 if word in ("ask", "yes", "no") else 0)


if __name__ == "__main__":
    unittest.main()
