"""How many readings a text has, and two of them."""

from formrules.parsing import Parser
from formrules.patterns import grammar_of
from formrules.words import words_of


def readings_many(book, notation, text):
    """Give the number of readings of a text; BadBook, BadNotation, BadText(None, None)."""
    meaning = _meaning(book, notation, text)
    return 0 if meaning is None else meaning.many


def rivals(book, notation, text):
    """Give None for fewer than two readings, otherwise a pair of two unlike ones; the errors of readings_many."""
    meaning = _meaning(book, notation, text)
    if meaning is None or meaning.many == 1:
        return None
    return meaning.most.e, meaning.least.e


def _meaning(book, notation, text):
    """Give what a text tells, None if it has no reading."""
    parser = Parser(grammar_of(book, notation), None, False)
    for word in words_of(text):
        if not parser.takes(word):
            return None
    return parser.meaning() if parser.whole() else None
