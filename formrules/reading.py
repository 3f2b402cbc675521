"""Reading texts that have just one reading, and what can stand behind their words."""

from formrules.errors import BadText
from formrules.parsing import Parser
from formrules.patterns import grammar_of
from formrules.words import words_of


def can_follow(book, notation, text):
    """Give the ascending tuple of what can stand behind all words of a text; BadBook, BadNotation, BadText."""
    return taken(grammar_of(book, notation), text).wanted()


def read(book, notation, text):
    """Give the expression that a text tells; BadBook, BadNotation, BadText."""
    return told_by(grammar_of(book, notation), text).e


def taken(grammar, text):
    """Give the parser that has taken all words of a text; BadText."""
    parser = Parser(grammar, None, True)
    for word in words_of(text):
        if not parser.takes(word):
            raise BadText(parser.many, parser.wanted())
    return parser


def told_by(grammar, text):
    """Give what a text tells, with its words; BadText, also if it is not whole."""
    parser = taken(grammar, text)
    if not parser.whole():
        raise BadText(parser.many, parser.wanted())
    return parser.meaning().most
