"""A desk."""

import unittest

from formrules.booktexts import book_text, read_book
from formrules.brackets import brackets, quarrels, text_of
from formrules.closed import is_closed
from formrules.desk import Desk
from formrules.errors import BadBook, BadText
from formrules.reading import read
from formrules.readings import readings_many
from formrules.running import run, steps
from formrules.writing import once, written

from fixtures import BOOK32, ODDITIES, P0, P1, book, form, num, own
from test_booktexts import TEXT32
from test_texts import BOOKR, N32, NR, notated


def desk(*lines, text=TEXT32):
    """Give a desk to which some lines were said, all of them answered ok."""
    found = Desk(text)
    for line in lines:
        assert found.say(line) == "ok", line
    return found


class Making(unittest.TestCase):
    def test_errors(self):
        for text in (None, 1, "", "x", "book\t", "book form a as A"):
            with self.assertRaises(BadText):
                Desk(text)
        with self.assertRaises(BadBook):
            Desk(text="book form a as A means x")

    def test_first(self):
        found = Desk(text=TEXT32)
        for line, answer in (("text", "ask"), ("tidy", "ask"), ("forms", TEXT32), ("run", "waits"), ("steps", "1"), ("closed", "yes"), ("written", "ask"), ("quarrels", "0"), ("brackets", "0")):
            self.assertEqual(found.say(line), answer)
        self.assertEqual(found.say(line="text"), "ask")


class Deeds(unittest.TestCase):
    def test_program(self):
        found = desk("program\n  show\n( ask )  ")
        # The program text is as it was said.
        self.assertEqual(found.say("text"), "  show\n( ask )  ")
        self.assertEqual(found.say("tidy"), "show ask")
        for text in ("", "x plus", "show x * y", "get c", "x )", "form"):
            self.assertEqual(found.say("program\n" + text), "error BadText")
            self.assertEqual(found.say("tidy"), "show ask")
        for line in ("program", "program x", "program \nx", "program x\ny", " program\nx", "programs\nx"):
            self.assertEqual(found.say(line), "what", line)

    def test_put(self):
        found = desk("program\nSWAP x  / y !")
        self.assertEqual(found.say("put 3.1\na * b"), "ok")
        self.assertEqual(found.say("text"), "SWAP x / a * b !")
        self.assertEqual(found.say("put 3.1.3.0\nshow 1"), "ok")
        self.assertEqual(found.say("text"), "SWAP x / ( show 1 ) * b !")
        self.assertEqual(found.say("put -\n1  plus 2"), "ok")
        self.assertEqual(found.say("text"), "1 plus 2")
        self.assertEqual(found.say("put 2\n1 plus\n2"), "ok")
        self.assertEqual(found.say("text"), "1 plus ( 1 plus 2 )")
        for line, answer in (("put 3\n1", "error BadPath"), ("put 0\n1", "error BadPath"), ("put 9.9\n1", "error BadPath"), ("put 1.1\n1", "error BadPath"), ("put 2\n1 plus", "error BadText"), ("put 2\n", "error BadText"), ("put 3\n1 plus", "error BadPath")):
            self.assertEqual(found.say(line), answer, line)
        for line in ("put 2", "put\n1", "put 2 \n1", "put  2\n1", "put 2.\n1", "put .2\n1", "put 2..1\n1", "put 2,1\n1", "put x\n1", "put --\n1", "put (2,)\n1", "put 2 1\n1", "put +2\n1", "put 12\n1", "put -.1\n1"):
            self.assertEqual(found.say(line), "what", line)
        self.assertEqual(found.say("text"), "1 plus ( 1 plus 2 )")

    def test_inputs(self):
        found = desk("program\nask plus ask", "give 3", "give 7")
        self.assertEqual(found.say("run"), "asked 3 asked 7 ends 2")
        self.assertEqual(found.say("again"), "ok")
        self.assertEqual(found.say("run"), "waits")
        for line in ("give", "give 8", "give 9", "give -1", "give 12", "give  3", "give 3 ", " give 3", "give 3\n", "give x", "give 3 4", "again 1", "give\n3"):
            self.assertEqual(found.say(line), "what", line)
        for _ in range(200):
            self.assertEqual(found.say("give 1"), "ok")
        self.assertEqual(found.say("give 1"), "error BadInputs")
        self.assertEqual(found.say("again"), "ok")
        self.assertEqual(found.say("again"), "ok")
        self.assertEqual(found.say("give 1"), "ok")

    def test_undo(self):
        found = Desk(TEXT32)
        self.assertEqual(found.say("undo"), "error NothingDone")
        self.assertEqual(found.say("redo"), "error NothingUndone")
        for line in ("give 1", "program\nshow ask", "put 1\n4", "again", "book"):
            self.assertEqual(found.say(line), "ok")
        answers = lambda: [found.say(line) for line in ("text", "run", "forms")]
        last = answers()
        self.assertEqual(last, ["show 4", "shown 4 ends 4", "book"])
        seen = []
        for _ in range(5):
            self.assertEqual(found.say("undo"), "ok")
            seen.append(found.say("text"))
        # Questions, and what was answered by an error or by what, are no deeds.
        self.assertEqual(seen, ["show 4", "show 4", "show ask", "ask", "ask"])
        self.assertEqual(found.say("undo"), "error NothingDone")
        self.assertEqual(found.say("run"), "waits")
        for _ in range(2):
            self.assertEqual(found.say("redo"), "ok")
        self.assertEqual(found.say("run"), "asked 1 shown 1 ends 1")
        self.assertEqual(found.say("undo"), "ok")
        for _ in range(4):
            self.assertEqual(found.say("redo"), "ok")
        self.assertEqual(answers(), last)
        self.assertEqual(found.say("redo"), "error NothingUndone")
        # Behind an undo a deed was done: then nothing is taken back any more; an error is no deed.
        self.assertEqual(found.say("undo"), "ok")
        self.assertEqual(found.say("give 8"), "what")
        self.assertEqual(found.say("put 9\n1"), "error BadPath")
        self.assertEqual(found.say("redo"), "ok")
        self.assertEqual(found.say("undo"), "ok")
        self.assertEqual(found.say("give 2"), "ok")
        self.assertEqual(found.say("redo"), "error NothingUndone")
        self.assertEqual(found.say("undo"), "ok")
        self.assertEqual(found.say("redo"), "ok")
        for line in ("undo 1", "undo\n", "redo x", " undo", "undo "):
            self.assertEqual(found.say(line), "what")

    def test_books(self):
        found = desk("program\nSWAP x * y / ( z ) !", "give 3")
        other = book_text(book(*BOOK32[2][:1], form("more", 0, 1, None, P0), *BOOK32[2][2:]), (("BOTH", P0, "AND", P1, "END"), ("MORE", P0), (P1, "*", P0)))
        self.assertEqual(found.say(other), "ok")
        # The program text is taken over by the new notation; what was asked for inputs stays.
        self.assertEqual(found.say("text"), "z * BOTH x AND y END")
        self.assertEqual(found.say("forms"), other)
        self.assertEqual(found.say("program\nask"), "ok")
        self.assertEqual(found.say("run"), "asked 3 ends 3")
        self.assertEqual(found.say("undo"), "ok")
        self.assertEqual(found.say("book form a as A means 1"), "error BadExpression")
        self.assertEqual(found.say("book\nform a as A means"), "error BadText")
        self.assertEqual(found.say("book form a as A means x"), "error BadBook")
        self.assertEqual(found.say("bookform"), "what")
        self.assertEqual(found.say(" book"), "what")
        self.assertEqual(found.say("\nbook"), "what")
        self.assertEqual(found.say("books"), "what")
        self.assertEqual(found.say("forms"), other)
        self.assertEqual(found.say("undo"), "ok")
        self.assertEqual((found.say("text"), found.say("forms")), ("SWAP x * y / ( z ) !", TEXT32))
        # The text is tidy by then, whatever it was before; blanks and line feeds in a book's text mean nothing.
        found = desk("program\n( ( 1 ) )")
        self.assertEqual(found.say("book\n\n  c"), "ok")
        self.assertEqual((found.say("text"), found.say("forms")), ("1", "book c"))
        self.assertEqual(found.say("program\nget c"), "ok")
        self.assertEqual(found.say("book d"), "error BadExpression")
        self.assertEqual(found.say("book d c"), "ok")


class Questions(unittest.TestCase):
    def test_texts(self):
        found = desk("program\n( ( show ( x plus y ) ) plus z )")
        for line, answer in (("text", "( ( show ( x plus y ) ) plus z )"), ("tidy", "( show ( x plus y ) ) plus z"), ("quarrels", "3"), ("brackets", "2"), ("closed", "no"), ("run", "stuck"), ("steps", "4")):
            self.assertEqual(found.say(line), answer)
        for text, many in (("", 0), ("show x * y", 2), ("x plus\nx plus x plus x", 5), ("8", 0), ("x", 1)):
            self.assertEqual(found.say("readings\n" + text), str(many))
        for line in ("readings", "readings x", "readings x\ny", "readings \nx", "text ", "text\n", "text x", "tidy\nx", " forms", "Text", "", " ", "\n", "x", "ask", "form", "closed?", "written -", "once", "once ", "once  -", "once x", "once 3.", "once 3,0", "once -\n", "run 3", "steps\n", "quarrels 1", "brackets ()", "undo redo"):
            self.assertEqual(found.say(line), "what", line)

    def test_any_value(self):
        found = Desk(TEXT32)
        for line in ODDITIES + [b"text", ["text"], ("text",), "text\t", "tex\xe9", "\x00", "give\t3", object()]:
            self.assertEqual(found.say(line), "what")
        self.assertEqual(found.say("undo"), "error NothingDone")

    def test_written(self):
        found = desk("program\nTWICE a = ask : show a", "give 3")
        self.assertEqual(found.say("closed"), "yes")
        self.assertEqual(found.say("written"), "let a be ask in ( ( show a ) next show a )")
        self.assertEqual(found.say("once -"), "let a be ask in ( ( show a ) next show a )")
        self.assertEqual(found.say("run"), "asked 3 shown 3 shown 3 ends 3")
        self.assertEqual(found.say("steps"), "7")
        found = desk("program\nshow SWAP 1 / x * 2 !")
        self.assertEqual(found.say("once 1"), "let a be x * 2 in pair a with 1")
        self.assertEqual(found.say("written"), "show let a be if x then 2 else no in pair a with 1")
        self.assertEqual(found.say("once 1.3.1"), "if x then 2 else no")
        for line, answer in (("once -", "error BadUse"), ("once 1.3.0", "error BadUse"), ("once 2", "error BadPath"), ("once 0", "error BadPath"), ("once 1.3", "error BadPath"), ("once 9.9.9", "error BadPath")):
            self.assertEqual(found.say(line), answer)

    def test_too_many(self):
        great = "book " + "form a as A part 0 means part 0 next part 0 " + " ".join(f"form {other} as {other.upper()} part 0 means {one.upper()} {one.upper()} part 0" for one, other in zip("abc", "bcd"))
        found = desk(great, "program\nD D 1", text="book")
        for line in ("written", "run", "steps"):
            self.assertEqual(found.say(line), "error TooMany")
        self.assertEqual(found.say("closed"), "yes")
        self.assertEqual(found.say("once -"), "C C D 1")

    def test_showings(self):
        cases = {
            "show 3": "shown 3 ends 3", "show pair 3 with pair yes with 0": "shown (3 (yes 0)) ends (3 (yes 0))", "show no": "shown no ends no", "fail w": "fails w", "first 1": "stuck", "ask": "waits", "while yes do 1": "never", "pair pair 1 with 2 with no": "ends ((1 2) no)",
            "( show 1 ) next fail w": "shown 1 fails w", "( show yes ) next ask": "shown yes waits", "while yes do show 1": "shown 1 " * 50 + "more", "x": "stuck",
        }
        for text, answer in cases.items():
            self.assertEqual(desk("program\n" + text).say("run"), answer)
        for text, answer in (("while yes do 1", "none"), ("show 3", "2"), ("while yes do show 1", str(4 * 50 + 4)), ("1", "1")):
            self.assertEqual(desk("program\n" + text).say("steps"), answer, text)

    def test_answers_are_those_of_the_functions(self):
        """Two desks with equal books, notations, program texts and inputs answer all questions alike ([170])."""
        lines = ["text", "tidy", "forms", "quarrels", "brackets", "readings\nx plus x plus 1", "closed", "written", "once -", "once 3.0", "run", "steps"]
        for seed in range(50):
            told, notation, maker = notated(seed)
            e = maker.expression(told, 3)
            other = [text_of(told, notation, maker.expression(told, 2)) for _ in range(2)]
            text = book_text(told, notation)
            program = text_of(told, notation, e)
            inputs = [maker.random.randint(0, 7) for _ in range(3)]
            one, rival = Desk(text), Desk("book")
            for line in ["program\n" + program] + [f"give {n}" for n in inputs]:
                self.assertEqual(one.say(line), "ok")
            for line in ["give 1", "program\n1", "undo", "give 2", text, "again"] + ["program\n" + other[0], "put -\n" + other[1], "undo", "undo", "program\n" + program, "redo", "put 9\n1"] + [f"give {n}" for n in inputs]:
                rival.say(line)
            self.assertEqual([one.say(line) for line in lines], [rival.say(line) for line in lines])
            self.assertEqual(one.say("tidy"), program)
            self.assertEqual(one.say("forms"), text)
            self.assertEqual(one.say("quarrels"), str(len(quarrels(told, notation, e))))
            self.assertEqual(one.say("brackets"), str(len(brackets(told, notation, e))))
            self.assertEqual(one.say("closed"), "yes" if is_closed(told, e) else "no")
            self.assertEqual(one.say("readings\n" + program), str(readings_many(told, notation, program)))
            if one.say("run") != "error TooMany":
                self.assertEqual(one.say("written"), text_of(told, notation, written(told, e)))
                many = steps(told, e, inputs, 50)
                self.assertEqual(one.say("steps"), "none" if many is None else str(many))
                self.assertEqual(one.say("run").split(" ").count("asked"), sum(event[0] == "asked" for event in run(told, e, inputs, 50)[0]))
            if e[0] == "own":
                self.assertEqual(one.say("once -"), text_of(told, notation, once(told, e)))
            # If the notations alone are unlike, closed, run and steps of programs that tell the same are alike.
            changed = tuple(tuple(piece if not isinstance(piece, str) else piece[::-1] for piece in pattern) if not any(piece[0] == "rows" for piece in pattern if not isinstance(piece, str)) else pattern for pattern in notation)
            try:
                third = Desk(book_text(told, changed))
            except Exception as error:
                self.assertEqual(type(error).__name__, "BadNotation")
                continue
            for line in ["program\n" + text_of(told, changed, e)] + [f"give {n}" for n in inputs]:
                self.assertEqual(third.say(line), "ok")
            for line in ("closed", "run", "steps"):
                self.assertEqual(third.say(line), one.say(line))

    def test_rows(self):
        found = desk("program\nROW a + b 1 - 2 + c 3 - 4 END get d", text=book_text(BOOKR, NR))
        self.assertEqual(found.say("put 4.1.1.0\nshow 5"), "ok")
        self.assertEqual(found.say("text"), "ROW a + b 1 - 2 + c show 5 - 4 END get d")
        self.assertEqual(found.say("once 4.1.1.0"), "error BadUse")
        self.assertEqual(found.say("once -"), "ROW a + c show 5 - 4 END get d")
        self.assertEqual(read(*read_book(found.say("forms")), found.say("text"))[4][1][1], (("show", num(5)), num(4)))


if __name__ == "__main__":
    unittest.main()
