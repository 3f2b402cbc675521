"""Patterns: how nodes are written, those of core and those of a notation."""

from formrules.books import is_book
from formrules.errors import BadBook, BadNotation
from formrules.shapes import FIELDS
from formrules.terms import headed, is_below
from formrules.words import is_sign

# The pieces of core: words, names, cells and faults, and parts, known by their indexes among the parts of the node.
CORE = {
    "let": (("word", "let"), ("name", 0), ("word", "be"), ("part", 0), ("word", "in"), ("part", 1)),
    "pair": (("word", "pair"), ("part", 0), ("word", "with"), ("part", 1)),
    "first": (("word", "first"), ("part", 0)),
    "second": (("word", "second"), ("part", 0)),
    "plus": (("part", 0), ("word", "plus"), ("part", 1)),
    "less": (("part", 0), ("word", "less"), ("part", 1)),
    "if": (("word", "if"), ("part", 0), ("word", "then"), ("part", 1), ("word", "else"), ("part", 2)),
    "while": (("word", "while"), ("part", 0), ("word", "do"), ("part", 1)),
    "then": (("part", 0), ("word", "next"), ("part", 1)),
    "get": (("word", "get"), ("cell",)),
    "set": (("word", "put"), ("part", 0), ("word", "into"), ("cell",)),
    "show": (("word", "show"), ("part", 0)),
    "ask": (("word", "ask"),),
    "fail": (("word", "fail"), ("fault",)),
    "catch": (("word", "try"), ("part", 0), ("word", "upon"), ("fault",), ("word", "use"), ("part", 1)),
}
# What stands only in programs, not in templates.
SUMS = ("plus", "less")


def is_notation(book, thing):
    """Tell whether any value is a notation of a book; BadBook."""
    if not is_book(book):
        raise BadBook("this is no book")
    return is_notation_of(book, thing)


def is_notation_of(book, thing):
    """Tell whether any value is a notation of what is known to be a book."""
    if not isinstance(thing, tuple) or len(thing) != len(book[2]):
        return False
    signs = {}
    return all([_is_pattern(form, pattern, signs) for form, pattern in zip(book[2], thing)])


def need_notation(book, notation):
    """BadBook; BadNotation unless any value is a notation of the book."""
    if not is_notation(book, notation):
        raise BadNotation("this is no notation of the book")


def _is_pattern(form, thing, signs):
    """Tell whether any value is a pattern of a form; signs has those that stand already, and gets the new ones."""
    _, _, binds, parts, row, _ = form
    if not isinstance(thing, tuple) or not _is_row_of_pieces(thing, ("bind", binds), ("part", parts), signs, row):
        return False
    if isinstance(thing[0], str):
        return True
    return headed(thing[0]) == "part" and len(thing) > 1 and isinstance(thing[1], str)


def _is_row_of_pieces(pieces, name, part, signs, row):
    """Tell whether pieces stand as they must, each place once; name and part are pairs (head, how many there are).

    row is that of a form, None for one without rows and for the pieces of rows.
    """
    due = [(head, i) for head, many in (name, part) for i in range(many)]
    due.extend([] if row is None else [("rows",)])
    for at, piece in enumerate(pieces):
        if isinstance(piece, str):
            if not is_sign(piece) or piece in signs:
                return False
            signs[piece] = True
        else:
            found = ("rows",) if row is not None and _are_rows(piece, row, signs) else _place(piece, name, part)
            if found not in due:
                return False
            due.remove(found)
            behind = pieces[at + 1:at + 2]
            if found[0] == part[0] and behind and not isinstance(behind[0], str) and headed(behind[0]) != "rows":
                return False
    return not due and len(pieces) > 0


def _place(piece, name, part):
    """Give a piece if it is a place, otherwise None."""
    for head, many in (name, part):
        if headed(piece) == head and len(piece) == 2 and is_below(piece[1], many):
            return piece
    return None


def _are_rows(piece, row, signs):
    """Tell whether a piece is that for the rows of a form."""
    if headed(piece) != "rows" or len(piece) != 3 or not isinstance(piece[1], tuple) or not piece[1]:
        return False
    name, part = ("row", row[0]), ("here", row[1])
    if not isinstance(piece[1][0], str) or not _is_row_of_pieces(piece[1], name, part, signs, None):
        return False
    if not is_sign(piece[2]) or piece[2] in signs:
        return False
    signs[piece[2]] = True
    return True


class Production:
    """How nodes of one head, or uses of one form, are written; front and back tell whether they are open there."""

    def __init__(self, head, form, pieces):
        self.head = head
        self.form = form
        self.pieces = pieces
        self.front = pieces[0][0] == "part"
        self.back = pieces[-1][0] == "part"

    def made(self, filled):
        """Give the node of this production for what was filled in."""
        if self.form is None:
            return self._core_made(filled)
        _, name, binds, parts, row, _ = self.form
        rows = tuple([one.items_of(row[0], row[1]) for one in filled.rows])
        return ("own", name) + filled.items_of(binds, parts) + (rows,)

    def _core_made(self, filled):
        items = [self.head]
        taken = 0
        for field in FIELDS[self.head]:
            if field == "part":
                items.append(filled.parts[taken])
                taken += 1
            else:
                items.append(filled.names[0] if field == "bound" else filled.word)
        return tuple(items)


class Filling:
    """What is filled into the pieces of a node or row: names and parts by indexes, a cell or fault, rows."""

    def __init__(self):
        self.names = {}
        self.parts = {}
        self.word = None
        self.rows = []

    def items_of(self, names, parts):
        """Give the pair of the tuples of so many names and parts."""
        return tuple([self.names[i] for i in range(names)]), tuple([self.parts[i] for i in range(parts)])


class Grammar:
    """The patterns that nodes can have, by heads of core and by forms; template tells whether these are in templates.

    starts has those that begin with a word, by it; behinds those that are open in front, by the word behind it.
    """

    def __init__(self, cells, forms, notation, template):
        self.cells = cells
        self.template = template
        self.of_core = {head: Production(head, None, CORE[head]) for head in CORE if self._has(head)}
        self.of_form = {form[1]: Production(form[1], form, _pieces_of(pattern))
                        for form, pattern in zip(forms, notation)}
        self.starts = {}
        self.behinds = {}
        for one in list(self.of_core.values()) + list(self.of_form.values()):
            if one.front:
                self.behinds[one.pieces[1][1]] = one
            else:
                self.starts[one.pieces[0][1]] = one

    def _has(self, head):
        if head in ("get", "set"):
            return len(self.cells) > 0
        return head not in SUMS or not self.template

    def production(self, node):
        """Give the production of a node, None for an atom."""
        return self.of_form[node[1]] if node[0] == "own" else self.of_core.get(node[0])


def _pieces_of(pattern):
    """Give the tuple of the pieces of a form's pattern as those of core are told."""
    pieces = []
    for piece in pattern:
        if isinstance(piece, str):
            pieces.append(("word", piece))
        elif piece[0] == "rows":
            pieces.append(("rows", _pieces_of(piece[1]), piece[2]))
        else:
            pieces.append(("name" if piece[0] in ("bind", "row") else "part", piece[1]))
    return tuple(pieces)


def grammar_of(book, notation):
    """Give the grammar of a book's expressions; BadBook, BadNotation."""
    need_notation(book, notation)
    return Grammar(book[1], book[2], notation, False)
