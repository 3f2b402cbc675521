"""The words of a node in a text, and exchanging them."""

from formrules.errors import BadPath, BadText
from formrules.guards import is_path
from formrules.patterns import grammar_of
from formrules.reading import told_by
from formrules.shapes import kids
from formrules.words import words_of


def span(book, notation, text, path):
    """Give the indexes of the first word of a node and of the word behind its last one.

    BadBook, BadNotation, BadText, BadPath.
    """
    return _span(grammar_of(book, notation), text, path)


def _span(grammar, text, path):
    told = told_by(grammar, text)
    if not is_path(path):
        raise BadPath("this is no path")
    done = 0
    while done < len(path):
        steps = [at for at, _ in kids(told.e)]
        leading = [k for k, at in enumerate(steps) if path[done:done + len(at)] == at]
        if not leading:
            raise BadPath("this path leads to no node")
        done += len(steps[leading[0]])
        told = told.parts[leading[0]]
    return told.span


def put(book, notation, text, path, rows):
    """Give the words of a text, those of a node being exchanged for others, in brackets if they must be.

    BadBook, BadNotation, BadText, BadPath, BadText for rows.
    """
    grammar = grammar_of(book, notation)
    first, last = _span(grammar, text, path)
    told_by(grammar, rows)
    words, new = words_of(text), words_of(rows)
    found = " ".join(words[:first] + new + words[last:])
    try:
        told_by(grammar, found)
    except BadText:
        return " ".join(words[:first] + ["("] + new + [")"] + words[last:])
    return found
