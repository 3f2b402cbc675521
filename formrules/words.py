"""Words: kept words, names, signs, and the words of a text."""

from formrules.errors import BadText

KEPT = (
    "ask", "as", "be", "bind", "book", "do", "done", "each", "else", "fail", "first", "form", "get", "here", "if",
    "in", "into", "less", "let", "means", "next", "no", "or", "pair", "part", "plus", "put", "rest", "row", "second",
    "show", "then", "try", "upon", "use", "while", "with", "yes",
)
LETTERS = "abcdefghijklmnopqrstuvwxyz"
MARKS = "ABCDEFGHIJKLMNOPQRSTUVWXYZ!*+-/:<=>?"
LONGEST = 8


def is_name(thing):
    """Tell whether any value is a name: 1 to 8 letters, no kept word."""
    return _is_made_of(thing, LETTERS) and thing not in KEPT


def is_sign(thing):
    """Tell whether any value is a sign of a notation."""
    return _is_made_of(thing, MARKS)


def _is_made_of(thing, characters):
    if not isinstance(thing, str) or not 1 <= len(thing) <= LONGEST:
        return False
    return all([one in characters for one in thing])


def words_of(text):
    """List the words of a text; BadText(None, None) for no text."""
    if not is_text(text):
        raise BadText(None, None)
    return [word for line in text.split("\n") for word in line.split(" ") if word]


def is_text(thing):
    """Tell whether any value is a string of line feeds and characters from the blank to ~."""
    if not isinstance(thing, str):
        return False
    return all([one == "\n" or " " <= one <= "~" for one in thing])
