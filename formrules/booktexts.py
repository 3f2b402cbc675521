"""Texts of books, which tell their own notation."""

from formrules.books import MOST_BINDS, MOST_CELLS, MOST_PARTS, is_book
from formrules.brackets import words_told
from formrules.errors import BadBook, BadText
from formrules.parsing import FIGURES, Parser
from formrules.patterns import Grammar, need_notation
from formrules.words import is_name, is_sign, words_of


def read_book(text):
    """Give the pair of the book and the notation that a text tells; BadText, BadBook."""
    reader = BookReader(words_of(text))
    reader.read()
    book = ("book", tuple(reader.cells), tuple(reader.forms))
    if not is_book(book):
        raise BadBook("a name is read that no let lets")
    return book, tuple(reader.notation)


def book_text(book, notation):
    """Give the text of a book with a notation; BadBook, BadNotation."""
    need_notation(book, notation)
    lines = [["book"] + list(book[1])]
    for at, (form, pattern) in enumerate(zip(book[2], notation)):
        words = ["form", form[1], "as"] + _words_of_pieces(pattern)
        for rule, word in zip(form[5], ("means", "or")):
            words.append(word)
            words.extend(words_told(Grammar(book[1], book[2][:at], notation[:at], True), rule))
        lines.append(words)
    return "\n".join([" ".join(words) for words in lines])


def _words_of_pieces(pieces):
    words = []
    for piece in pieces:
        if isinstance(piece, str):
            words.append(piece)
        elif piece[0] == "rows":
            words.extend(["each"] + _words_of_pieces(piece[1]) + ["done", piece[2]])
        else:
            words.extend([piece[0], str(piece[1])])
    return words


class BookReader:
    """Reads the words of a book's text one by one; BadText(at, None) with the first one that cannot stand."""

    def __init__(self, words):
        self.words = words
        self.at = 0
        self.cells = []
        self.forms = []
        self.notation = []
        self.signs = {}

    def word(self):
        """Give the next word, an empty one behind the last."""
        return self.words[self.at] if self.at < len(self.words) else ""

    def take(self, fine):
        """Take the next word if it is fine; BadText."""
        if not fine:
            raise BadText(self.at, None)
        self.at += 1
        return self.words[self.at - 1]

    def read(self):
        """Read all words."""
        self.take(self.word() == "book")
        while is_name(self.word()):
            self.cells.append(self.take(len(self.cells) < MOST_CELLS and self.word() not in self.cells))
        while self.at < len(self.words):
            self.take(self.word() == "form")
            self._read_form()

    def _read_form(self):
        names = [form[1] for form in self.forms]
        name = self.take(is_name(self.word()) and self.word() not in names)
        self.take(self.word() == "as")
        pieces = Pieces(self, ("bind", MOST_BINDS), ("part", MOST_PARTS))
        pieces.read("means")
        binds, parts, row = pieces.many[0], pieces.many[1], pieces.row
        grammar = Grammar(tuple(self.cells), tuple(self.forms), tuple(self.notation), True)
        self.take(self.word() == "means")
        rules = [self._read_template(grammar, (binds, parts, None), "form" if row is None else "or")]
        if row is not None:
            self.take(self.word() == "or")
            rules.append(self._read_template(grammar, (binds, parts, row), "form"))
        self.forms.append(("form", name, binds, parts, row, tuple(rules)))
        self.notation.append(tuple(pieces.found))

    def _read_template(self, grammar, places, behind):
        """Read a template up to a word, or the end of the text if this is form."""
        parser = Parser(grammar, places, True)
        while not parser.whole() or self.word() != behind:
            if self.at == len(self.words) and parser.whole() and behind == "form":
                break
            self.take(self.word() != "" and parser.takes(self.word()))
        return parser.meaning().most.e


class Pieces:
    """The pieces of a pattern, or those of its rows; name and part are pairs (head, how many there may be).

    found lists them; many will have how many of both there are, row those of the rows, None without any.
    """

    def __init__(self, reader, name, part):
        self.reader = reader
        self.name = name
        self.part = part
        self.found = []
        self.many = [0, 0]
        self.row = None

    def read(self, end):
        """Read pieces up to a word, which stays unread."""
        while self.reader.word() != end or not self._may_end():
            word = self.reader.word()
            if is_sign(word):
                self.found.append(self.reader.take(word not in self.reader.signs))
                self.reader.signs[word] = True
            elif word == "each":
                self._read_rows()
            else:
                self._read_place()
        self.many = [len(self._figures(self.name[0])), len(self._figures(self.part[0]))]

    def _figures(self, head):
        """List the figures of the places with a head that stand already, ascending."""
        return sorted([piece[1] for piece in self.found if not isinstance(piece, str) and piece[0] == head])

    def _may_end(self):
        """Tell whether there are pieces, no index is left out, and no sign is due."""
        figures = [self._figures(self.name[0]), self._figures(self.part[0])]
        if not self.found or self._first_is_part_alone():
            return False
        return all([found == list(range(len(found))) for found in figures])

    def _first_is_part_alone(self):
        return len(self.found) == 1 and not isinstance(self.found[0], str)

    def _behind_part(self):
        return len(self.found) > 0 and not isinstance(self.found[-1], str) and self.found[-1][0] == self.part[0]

    def _read_place(self):
        reader = self.reader
        word = reader.word()
        heads = [] if self._behind_part() else [head for head, many in (self.name, self.part)
                                                if len(self._figures(head)) < many]
        if not self.found:
            heads = [head for head in heads if head == "part"]
        reader.take(word in heads)
        most = self.name[1] if word == self.name[0] else self.part[1]
        figure = reader.word()
        reader.take(figure in FIGURES and int(figure) < most and int(figure) not in self._figures(word))
        self.found.append((word, int(figure)))

    def _read_rows(self):
        reader = self.reader
        fine = self.part[0] == "part" and self.row is None and len(self.found) > 0 and not self._first_is_part_alone()
        reader.take(fine)
        inner = Pieces(reader, ("row", MOST_BINDS), ("here", MOST_PARTS))
        inner.read("done")
        reader.take(reader.word() == "done")
        sign = reader.take(is_sign(reader.word()) and reader.word() not in reader.signs)
        reader.signs[sign] = True
        self.row = (inner.many[0], inner.many[1])
        self.found.append(("rows", tuple(inner.found), sign))
