"""Notations made by a seed, and texts read by trying all ways, from the words of the document.

Nothing is taken from the package.
"""

import random
from functools import lru_cache

KEPT = set("ask as be bind book do done each else fail first form get here if in into less let means next no or pair part plus "
           "put rest row second show then try upon use while with yes".split())
CORE = {
    "let": "let NAME be E in E", "pair": "pair E with E", "first": "first E", "second": "second E", "plus": "E plus E",
    "less": "E less E", "if": "if E then E else E", "while": "while E do E", "then": "E next E", "get": "get CELL",
    "set": "put E into CELL", "show": "show E", "ask": "ask", "fail": "fail FAULT", "catch": "try E upon FAULT use E",
}


def notation(book, seed):
    """Make a notation of a book."""
    rnd = random.Random(seed)
    signs = [first + other for first in "ABCDEFG!*+-/:<=>?" for other in ["", "Z", "*!", "QUITE"]]
    rnd.shuffle(signs)
    found = []
    for form in book[2]:
        _, _, binds, parts, row, _ = form
        pieces = [("bind", i) for i in range(binds)] + [("part", i) for i in range(parts)] + ([None] if row else [])
        rnd.shuffle(pieces)
        if rnd.random() < 0.5 and ("part", 0) in pieces:
            pieces.remove(("part", 0))
            pieces.insert(0, ("part", 0))
        pattern = []
        if not pieces or not (pieces[0] and pieces[0][0] == "part" and rnd.random() < 0.7):
            pattern.append(signs.pop())
        for at, piece in enumerate(pieces):
            if piece is None:
                inner = [signs.pop()]
                places = [("row", i) for i in range(row[0])] + [("here", i) for i in range(row[1])]
                rnd.shuffle(places)
                for k, place in enumerate(places):
                    inner.append(place)
                    if (place[0] == "here" and k < len(places) - 1) or rnd.random() < 0.2:
                        inner.append(signs.pop())
                pattern.append(("rows", tuple(inner), signs.pop()))
                continue
            pattern.append(piece)
            last = at == len(pieces) - 1
            if piece[0] == "part" and (at == 0 and len(pattern) == 1 or not last and pieces[at + 1] is not None):
                pattern.append(signs.pop())
            elif rnd.random() < 0.2:
                pattern.append(signs.pop())
        found.append(tuple(pattern))
    return tuple(found)


def pieces_of(book, notation):
    """List (head, pieces) for all productions; pieces are words, (name, key), (part, key) or rows."""
    found = []
    for head, text in CORE.items():
        parts = 0
        pieces = []
        for word in text.split():
            if word == "E":
                pieces.append(("part", parts))
                parts += 1
            else:
                pieces.append(("name", 0) if word == "NAME" else (word,) if word in ("CELL", "FAULT") else word)
        found.append((head, pieces))
    for form, pattern in zip(book[2], notation):
        found.append((form, list(pattern)))
    return found


class Readings:
    """All readings of some words, by trying all ways."""

    def __init__(self, book, notation, words):
        self.book, self.words = book, words
        self.productions = pieces_of(book, notation)
        self.all = lru_cache(None)(self._all)
        self.row = lru_cache(None)(self._row)

    def readings(self):
        return self.all(0, len(self.words))

    def _all(self, i, j):
        words = self.words
        found = []
        if j - i == 1:
            word = words[i]
            if len(word) == 1 and word in "01234567":
                found.append(("number", int(word)))
            elif word in ("yes", "no"):
                found.append(("truth", word))
            elif is_name(word):
                found.append(("name", word))
        if j - i > 2 and words[i] == "(" and words[j - 1] == ")":
            found += self.all(i + 1, j - 1)
        for at, (head, pieces) in enumerate(self.productions):
            for filled in self.row(at, None, 0, i, j):
                made = self.made(head, dict(filled[0]), filled[1])
                if made is not None:
                    found.append(made)
        return tuple(dict.fromkeys(found))

    def _row(self, at, inner, k, i, j):
        """List (pairs of keys and what is there, rows) for the words from i to j by pieces from k on."""
        pieces = self.productions[at][1] if inner is None else self.productions[at][1][inner][1]
        if k == len(pieces):
            return (((), ()),) if i == j else ()
        if i == j and not (not isinstance(pieces[k], str) and pieces[k][0] == "rows"):
            return ()
        piece = pieces[k]
        found = []
        if isinstance(piece, str):
            if self.words[i] == piece:
                found = self.row(at, inner, k + 1, i + 1, j)
        elif piece[0] in ("name", "bind", "row", "FAULT"):
            if is_name(self.words[i]):
                found = [((((piece, self.words[i]),) + one), rows) for one, rows in self.row(at, inner, k + 1, i + 1, j)]
        elif piece[0] == "CELL":
            if self.words[i] in self.book[1]:
                found = [((((piece, self.words[i]),) + one), rows) for one, rows in self.row(at, inner, k + 1, i + 1, j)]
        elif piece[0] == "rows":
            for end in range(i, j):
                if self.words[end] == piece[2]:
                    for rows in self.rows(at, k, i, end):
                        found += [(one, rows) for one, _ in self.row(at, inner, k + 1, end + 1, j)]
        else:
            for end in range(i + 1, j + 1):
                behind = self.row(at, inner, k + 1, end, j)
                if behind:
                    found += [((((piece, e),) + one), rows) for e in self.all(i, end) for one, rows in behind]
        return tuple(found)

    def rows(self, at, k, i, j):
        if i == j:
            return [()]
        found = []
        for end in range(i + 1, j + 1):
            first = self.row(at, k, 0, i, end)
            if first:
                found += [(one[0],) + more for one in first for more in self.rows(at, k, end, j)]
        return found

    def made(self, head, filled, rows):
        if isinstance(head, str):
            parts = [filled[key] for key in sorted(key for key in filled if key[0] == "part")]
            if head == "let":
                return ("let", filled[("name", 0)]) + tuple(parts)
            if head in ("get", "set"):
                return (head, filled[("CELL",)]) + tuple(parts)
            if head in ("fail", "catch"):
                return (head, filled[("FAULT",)]) + tuple(parts)
            return (head,) + tuple(parts)
        _, name, binds, parts, row, _ = head
        names = tuple(filled[("bind", i)] for i in range(binds))
        told = [dict(one) for one in rows]
        below = tuple((tuple(one[("row", i)] for i in range(row[0])), tuple(one[("here", i)] for i in range(row[1]))) for one in told)
        every = list(names) + [x for xs, _ in below for x in xs]
        if len(every) != len(set(every)):
            return None
        return ("own", name, names, tuple(filled[("part", i)] for i in range(parts)), below)


def is_name(word):
    return 1 <= len(word) <= 8 and all(one in "abcdefghijklmnopqrstuvwxyz" for one in word) and word not in KEPT


def vocabulary(book, notation):
    """List all words that mean something."""
    found = set("( ) 0 7 yes no a b".split()) | set(book[1])
    for text in CORE.values():
        found |= {word for word in text.split() if word.islower()}

    def look(pieces):
        for piece in pieces:
            if isinstance(piece, str):
                found.add(piece)
            elif piece[0] == "rows":
                look(piece[1])
                found.add(piece[2])

    for pattern in notation:
        look(pattern)
    return sorted(found)
