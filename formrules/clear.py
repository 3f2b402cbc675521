"""Lots of heads whose expressions never need brackets."""

from formrules.errors import BadHeads
from formrules.freenames import free_names
from formrules.patterns import CORE, grammar_of


def rival_text(book, notation, heads):
    """Give None if all expressions of these heads are legal without brackets, otherwise a shortest text that is not.

    BadBook, BadNotation, BadHeads.
    """
    grammar = grammar_of(book, notation)
    known = {_word_of(grammar.of_core[head]): grammar.of_core[head] for head in grammar.of_core}
    known.update(grammar.of_form)
    if not isinstance(heads, (list, tuple)) or not all([isinstance(one, str) and one in known for one in heads]):
        raise BadHeads("this is no list of heads")
    if len({head: True for head in heads}) != len(heads):
        raise BadHeads("a head stands there twice")
    found = [known[head] for head in heads]
    texts = [_words_of_both(one, other) for one in found for other in found if one.back and other.front]
    return " ".join(min(texts, key=len)) if texts else None


def _word_of(production):
    """Give the first kept word of a pattern of core."""
    return [piece[1] for piece in CORE[production.head] if piece[0] == "word"][0]


def _words_of_both(one, other):
    """List the words of a node open behind ahead of one open in front, all parts being as short as can be."""
    first = ["0"] if one.front else []
    last = ["0"] if other.back else []
    return first + _own_words(one) + ["0"] + _own_words(other) + last


def _own_words(production):
    """List the words of a node from its first to its last one, what stands between being as short as can be."""
    pieces = production.pieces
    names = free_names({}, len(pieces))
    words = []
    for at, piece in enumerate(pieces):
        if piece[0] == "word":
            words.append(piece[1])
        elif piece[0] == "rows":
            words.append(piece[2])
        elif piece[0] == "part":
            words.extend([] if at == 0 or at == len(pieces) - 1 else ["0"])
        else:
            words.append(names[at])
    return words
