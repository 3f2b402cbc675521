"""Texts of books, which tell their own notation."""

import unittest

import naivetexts

from formrules.books import is_book
from formrules.booktexts import book_text, read_book
from formrules.errors import BadBook, BadNotation, BadText
from formrules.patterns import is_notation

from calls import check_calls
from fixtures import B0, BOOK32, H0, NO, P0, P1, R0, YES, book, form, name, num, own
from test_texts import BOOKR, N32, NR, notated

TEXT32 = (
    "book\n"
    "form both as part 0 * part 1 means if part 0 then part 1 else no\n"
    "form twice as TWICE bind 0 = part 0 : part 1 means let bind 0 be part 0 in ( part 1 next part 1 )\n"
    "form swap as SWAP part 0 / part 1 ! means let t be part 1 in pair t with part 0"
)


class BookTexts(unittest.TestCase):
    def test_calls(self):
        check_calls(self, read_book, {"text": TEXT32}, [("text", one, BadText) for one in (None, 1, b"book", ["book"], "book\t", "book \x7f", "")])
        check_calls(self, book_text, {"book": BOOK32, "notation": N32}, [("book", None, BadBook), ("notation", None, BadNotation), ("notation", N32[1:], BadNotation)])
        for text in (None, "book\t", ["book"]):
            with self.assertRaises(BadText) as caught:
                read_book(text)
            self.assertEqual((caught.exception.at, caught.exception.wanted), (None, None))

    def test_example(self):
        """[28]."""
        self.assertEqual(book_text(BOOK32, N32), TEXT32)
        self.assertEqual(read_book(TEXT32), (BOOK32, N32))
        self.assertEqual(read_book(TEXT32.replace("\n", "  ").replace(" means", "\n\nmeans") + "\n"), (BOOK32, N32))

    def test_texts(self):
        self.assertEqual(book_text(book(), ()), "book")
        self.assertEqual(read_book("book"), (book(), ()))
        self.assertEqual(book_text(book(cells=("d", "c")), ()), "book d c")
        self.assertEqual(read_book(" book\na b c d "), (book(cells=("a", "b", "c", "d")), ()))
        self.assertEqual(book_text(BOOKR, NR), (
            "book c d\n"
            "form rowed as ROW bind 0 each + row 0 here 0 - here 1 done END part 0 means part 0 or rest\n"
            "form after as part 0 ! means part 0\n"
            "form now as NOW means 1\n"
            "form names as NAMES bind 1 bind 0 part 0 ? means part 0"))
        self.assertEqual(read_book(book_text(BOOKR, NR)), (BOOKR, NR))
        # Templates are written by the patterns of the forms ahead, in both of their rules.
        told = book(*BOOKR[2], form("last", 2, 2, (1, 1), own("after", [], [("show", P1)]), own("names", [B0, R0], [("let", ("bind", 1), H0, own("rowed", ["x"], [("rest",)], [(["y"], [name(("bind", 1)), own("now")])]))])), cells=("c", "d"))
        notation = NR + (("LAST", ("bind", 1), P0, "A", P1, "B", B0, ("rows", ("C", R0, H0), "D")),)
        text = book_text(told, notation).split("\n")[-1]
        self.assertEqual(text, "form last as LAST bind 1 part 0 A part 1 B bind 0 each C row 0 here 0 done D means ( show part 1 ) ! or NAMES row 0 bind 0 let bind 1 be here 0 in ROW x + y bind 1 - NOW END rest ?")
        self.assertEqual(read_book(book_text(told, notation)), (told, notation))
        # How many places there are is told by the pieces.
        self.assertEqual(read_book("book form a as A each B here 1 C here 0 done D means 1 or rest"), (book(form("a", 0, 0, (0, 2), num(1), ("rest",))), (("A", ("rows", ("B", ("here", 1), "C", H0), "D")),)))
        self.assertEqual(read_book("book form a as A bind 2 bind 0 bind 1 means 1")[0], book(form("a", 3, 0, None, num(1))))

    def refused(self, text, at):
        with self.assertRaises(BadText) as caught:
            read_book(text)
        self.assertEqual((caught.exception.at, caught.exception.wanted), (at, None), text)

    def test_refused(self):
        """The index of the first word with which, behind those ahead of it, no book's text goes on."""
        cases = [
            ("", 0), ("x", 0), ("form", 0), ("Book", 0), ("book if", 1), ("book a a", 2), ("book a b c d e", 5), ("book a 1", 2), ("book ( a", 1), ("book a A", 2), ("book or", 1),
            # Forms: a name that stands already, none at all, and what must come.
            ("book form", 2), ("book form 1", 2), ("book form as", 2), ("book form a", 3), ("book form a is", 3), ("book form a as", 4), ("book form a as means", 4), ("book form a as A means 1 form a", 8), ("book form a as A means 1 form b as A", 10),
            # Pieces.
            ("book form a as bind", 4), ("book form a as each", 4), ("book form a as a", 4), ("book form a as part 0 means", 6), ("book form a as part 0 each", 6), ("book form a as part 0 bind", 6), ("book form a as part 0 part", 6), ("book form a as part 0", 6), ("book form a as part 0 A", 7),
            ("book form a as A A", 5), ("book form a as A bind 3", 6), ("book form a as A bind x", 6), ("book form a as A bind", 6), ("book form a as A part 4", 6), ("book form a as A bind 0 bind 0", 8), ("book form a as A bind 0 bind 1 bind 2 bind", 11), ("book form a as A bind 1 means", 7),
            ("book form a as A part 1 means", 7), ("book form a as A part 0 bind", 7), ("book form a as A part 0 part", 7), ("book form a as A part 0 B part 0", 9), ("book form a as A part 0 A", 7), ("book form a as A row", 5), ("book form a as A here", 5), ("book form a as A done", 5),
            ("book form a as A part 0 B part 1 C part 2 D part 3 E part", 17), ("book form a as ABCDEFGHI", 4), ("book form a as A or", 5), ("book form a as A 0", 5),
            # Rows.
            ("book form a as A each", 6), ("book form a as A each row", 6), ("book form a as A each done", 6), ("book form a as A each A", 6), ("book form a as A each B done", 8), ("book form a as A each B done B", 8), ("book form a as A each B done A", 8), ("book form a as A each B done x", 8),
            ("book form a as A each B row 3", 8), ("book form a as A each B row 0 row 0", 10), ("book form a as A each B here 0 here", 9), ("book form a as A each B here 0 row", 9), ("book form a as A each B here 1 done", 9), ("book form a as A each B row 1 done", 9), ("book form a as A each B bind", 7),
            ("book form a as A each B part", 7), ("book form a as A each B each", 7), ("book form a as A each B done C each", 9), ("book form a as A each B means", 7), ("book form a as A each B here 4", 8), ("book form a as A each B row 0 row 1 row 2 row", 13), ("book form a as A each B done C means 1", 11),
            ("book form a as A each B done C means 1 form", 11), ("book form a as A each B done C means 1 or", 12), ("book form a as A means 1 or", 7),
            # Templates.
            ("book form a as A means", 6), ("book form a as A means A", 6), ("book form a as A means 8", 6), ("book form a as A means part", 6), ("book form a as A part 0 means part 1", 9), ("book form a as A part 0 means part x", 9), ("book form a as A part 0 means part", 9), ("book form a as A means bind", 6),
            ("book form a as A bind 0 means bind 1", 9), ("book form a as A means rest", 6), ("book form a as A means here", 6), ("book form a as A means row", 6), ("book form a as A part 0 means part 0 plus", 10), ("book form a as A part 0 means part 0 less", 10), ("book form a as A means get", 6),
            ("book c form a as A means get d", 8), ("book c form a as A means put 1 into a", 10), ("book form a as A means 1 2", 7), ("book form a as A means show 1 next", 8), ("book form a as A means 1 next 2 next", 9), ("book form a as A means ( 1", 8), ("book form a as A means let x", 8), ("book form a as A means let bind", 7),
            ("book form a as A bind 0 means let bind 1", 10), ("book form a as A means x )", 7), ("book form a as A means book", 6), ("book form a as A means fail bind", 7), ("book form a as A bind 0 means fail bind", 9),
            ("book form a as A each B done C means rest", 10), ("book form a as A each B here 0 done C means here", 12), ("book form a as A each B row 0 done C means row", 12), ("book form a as A each B here 0 done C means 1 or here 1", 15), ("book form a as A each B row 0 done C means 1 or let row 1", 16),
            ("book form a as A each B done C means 1 or part", 12), ("book form a as A each B done C means 1 or rest rest", 13), ("book form a as A each B done C means 1 or rest or", 13),
            # Only the patterns of the forms ahead; a name stands in a use once, places among them.
            ("book form a as A means 1 form b as B means B", 12), ("book form a as A means 1 form b as B means A form c as A", 16), ("book form a as A bind 0 bind 1 part 0 means 1 form b as B bind 0 means A bind 0 bind", 23), ("book form a as A bind 0 bind 1 part 0 means 1 form b as B bind 0 means A x x", 22),
            ("book form a as A bind 0 bind 1 part 0 means 1 form b as B bind 0 bind 1 means A bind 0 bind 0", 26), ("book form a as A bind 0 bind 1 part 0 means 1 form b as B means A bind", 19), ("book form a as A bind 0 bind 1 part 0 means 1 form b as B means A x y", 21),
        ]
        for text, at in cases:
            self.refused(text, at)
            # What stands behind the word does not matter.
            words = text.split()
            if at < len(words):
                self.refused(" ".join(words[:at + 1] + ["form", "part", "0"]), at)
        self.assertTrue(read_book("book a form a as A means 1"))

    def test_bad_books(self):
        """BadBook only if all is so otherwise, but a name is read that no let lets."""
        for text in ("book form a as A means x", "book form a as A bind 0 means bind 0", "book form a as A part 0 means let x be x in part 0", "book form a as A part 0 means part 0 form b as B means A x", "book form a as A each B row 0 done C means 1 or row 0"):
            with self.assertRaises(BadBook):
                read_book(text)
            self.refused(text + " )", len(text.split()))
            with self.assertRaises(BadBook):
                read_book(text + " form z as Z means 1")
        self.assertTrue(read_book("book form a as A bind 0 means let bind 0 be 1 in bind 0"))
        # A use lets its name be seen by its form.
        self.assertTrue(read_book("book form a as A bind 0 part 0 means let bind 0 be 1 in part 0 form b as B means A x x"))
        with self.assertRaises(BadBook):
            read_book("book form a as A bind 0 part 0 means part 0 form b as B means A x x")

    def test_small_books(self):
        """Texts of books are read as the book and the notation ([27])."""
        kept, refused, others = 0, 0, 0
        for seed in range(160):
            told, notation, maker = notated(seed)
            text = book_text(told, notation)
            self.assertEqual(read_book(text), (told, notation))
            self.assertEqual(text.count("\n"), len(told[2]))
            words = text.split()
            self.assertEqual(" ".join(words), text.replace("\n", " "))
            for at in maker.random.sample(range(len(words)), min(3, len(words))):
                # All that stands ahead of a word can be gone on from.
                self.assertIn(refusal(words[:at]), (None, at))
                other = maker.random.choice(naivetexts.vocabulary(told, notation) + ["means", "form", "or", "each", "done", "bind", "part", "here", "row", "rest", "as", "1", "3", "NEW", "a", "z"])
                changed = words[:at] + [other] + words[at + maker.random.choice([0, 1]):]
                found = refusal(changed)
                if isinstance(found, int):
                    self.assertGreaterEqual(found, at)
                    self.assertIn(refusal(changed[:found]), (None, found))
                    self.assertEqual(refusal(changed[:found + 1]), found)
                    refused += 1
                    continue
                try:
                    pair = read_book(" ".join(changed))
                except BadBook:
                    others += 1
                    continue
                self.assertTrue(is_book(pair[0]) and is_notation(*pair))
                self.assertEqual(read_book(book_text(*pair)), pair)
                bare = [word for word in changed if word not in "()"]
                self.assertEqual([word for word in book_text(*pair).split() if word not in "()"], bare)
                kept += 1
        self.assertGreater(refused, 100)
        self.assertGreater(kept, 10)


def refusal(words):
    """Give the index of the word that is refused, None if none is."""
    try:
        read_book(" ".join(words))
    except BadText as error:
        return error.at
    except BadBook:
        pass
    return None


if __name__ == "__main__":
    unittest.main()
