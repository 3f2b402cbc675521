import unittest

from formrules.errors import BadText
from formrules.words import KEPT, is_name, is_sign, words_of

from fixtures import ODDITIES

TOLD = (
    "ask, as, be, bind, book, do, done, each, else, fail, first, form, get, here, if, in, into, less, let, means, "
    "next, no, or, pair, part, plus, put, rest, row, second, show, then, try, upon, use, while, with, yes"
)


class Words(unittest.TestCase):
    def test_kept_words_in_their_sequence(self):
        self.assertEqual(KEPT, tuple(TOLD.split(", ")))
        self.assertIsInstance(KEPT, tuple)

    def test_names(self):
        for word in ("a", "z", "abcdefgh", "iff", "rows", "number", "own"):
            self.assertIs(is_name(word), True)
        for word in ("", "abcdefghi", "A", "aB", "a1", "a b", "a\n", "\xe9", "\u0430") + KEPT:
            self.assertIs(is_name(word), False)

    def test_signs(self):
        for word in ("A", "Z", "ABCDEFGH", "!*+-/:<=", ">?", "=", "AND"):
            self.assertIs(is_sign(word), True)
        for word in ("", "ABCDEFGHI", "a", "A1", "A B", "(", ")", "&", "A\n", "\xc9"):
            self.assertIs(is_sign(word), False)

    def test_any_value_is_judged(self):
        for thing in ODDITIES:
            self.assertIs(is_name(thing=thing), thing in ("x", "number") if isinstance(thing, str) else False)
            self.assertIs(is_sign(thing=thing), False)

    def test_words_of_a_text(self):
        self.assertEqual(words_of("a  b\n\nc ( d"), ["a", "b", "c", "(", "d"])
        self.assertEqual(words_of(""), [])
        self.assertEqual(words_of(" \n "), [])
        self.assertEqual(words_of(text="~!A x1"), ["~!A", "x1"])
        self.assertIsNot(words_of("a"), words_of("a"))

    def test_no_text(self):
        for thing in [1, None, b"a", ["a"], "a\tb", "a\r", "\xe9", "\x7f", "a\x0b", "\u2028"]:
            with self.assertRaises(BadText) as caught:
                words_of(thing)
            self.assertIsNone(caught.exception.at)
            self.assertIsNone(caught.exception.wanted)


if __name__ == "__main__":
    unittest.main()
