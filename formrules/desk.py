"""A desk: a book with its notation, a program, and inputs, and what is said to it."""

from formrules.booktexts import book_text, read_book
from formrules.books import is_expression_of
from formrules.brackets import brackets, quarrels, text_of
from formrules.closed import is_closed
from formrules.errors import BadExpression, BadInputs, BadPath, FormError, NothingDone, NothingUndone
from formrules.parsing import FIGURES
from formrules.patches import put
from formrules.reading import read
from formrules.readings import readings_many
from formrules.running import run, steps
from formrules.shapes import nodes_of
from formrules.words import is_text
from formrules.writing import once, written

MOST_INPUTS = 200
MOST_EVENTS = 50
DIGITS = "0123456789"
DEEDS = ("give", "again", "undo", "redo")
QUESTIONS = ("text", "tidy", "forms", "quarrels", "brackets", "closed", "written", "once", "run", "steps")
# The words behind which a line feed and a text stand.
WITH_TEXTS = ("program", "put", "readings")
# The words behind which a path stands.
WITH_PATHS = ("put", "once")


class State:
    """What a desk has: a book and a notation, a program text, and inputs."""

    def __init__(self, book, notation, text, inputs):
        self.book = book
        self.notation = notation
        self.text = text
        self.inputs = inputs

    def program(self):
        """Give the program."""
        return read(self.book, self.notation, self.text)


class Desk:
    """A desk with a book and a notation, which a text tells; BadText, BadBook.

    state is at work; done lists the ones ahead of the deeds that were done, undone those of deeds taken back.
    """

    def __init__(self, text):
        book, notation = read_book(text)
        self.state = State(book, notation, "ask", ())
        self.done = []
        self.undone = []

    def say(self, line):
        """Answer a line, any value, by a string."""
        if not is_text(line):
            return "what"
        head, feed, text = line.partition("\n")
        words = head.split(" ")
        try:
            if line.split(" ")[0].split("\n")[0] == "book":
                return self._do(self._with_book(line))
            if (words[0] in WITH_TEXTS) != (feed != "") or not _fits(words):
                return "what"
            if words[0] in DEEDS + WITH_TEXTS and words[0] != "readings":
                return self._deed(words, text)
            return self._answer(words, text)
        except FormError as e:
            return f"error {e.called}"

    def _do(self, state):
        """Let a state be at work from now on."""
        self.done.append(self.state)
        self.undone = []
        self.state = state
        return "ok"

    def _with_book(self, text):
        book, notation = read_book(text)
        e = self.state.program()
        if not is_expression_of(book, e):
            raise BadExpression("the program is no expression of the new book")
        return State(book, notation, text_of(book, notation, e), self.state.inputs)

    def _deed(self, words, text):
        if words[0] == "undo":
            return self._undo()
        if words[0] == "redo":
            return self._redo()
        state = self.state
        found = State(state.book, state.notation, state.text, state.inputs)
        if words[0] == "program":
            found.text = text
            found.program()
        elif words[0] == "put":
            found.text = put(state.book, state.notation, state.text, _path_of(words[1]), text)
        elif words[0] == "again":
            found.inputs = ()
        else:
            if len(state.inputs) == MOST_INPUTS:
                raise BadInputs("there are 200 inputs")
            found.inputs = state.inputs + (int(words[1]),)
        return self._do(found)

    def _undo(self):
        if not self.done:
            raise NothingDone("there is no deed to be taken back")
        self.undone.append(self.state)
        self.state = self.done.pop()
        return "ok"

    def _redo(self):
        if not self.undone:
            raise NothingUndone("there is no undo to be taken back")
        self.done.append(self.state)
        self.state = self.undone.pop()
        return "ok"

    def _answer(self, words, text):
        state = self.state
        book, notation = state.book, state.notation
        if words[0] == "readings":
            return str(readings_many(book, notation, text))
        if words[0] == "text":
            return state.text
        if words[0] == "forms":
            return book_text(book, notation)
        return self._answer_about(words, book, notation, state.program())

    def _answer_about(self, words, book, notation, e):
        """Answer a question about the program."""
        if words[0] == "tidy":
            return text_of(book, notation, e)
        if words[0] == "quarrels":
            return str(len(quarrels(book, notation, e)))
        if words[0] == "brackets":
            return str(len(brackets(book, notation, e)))
        if words[0] == "closed":
            return "yes" if is_closed(book, e) else "no"
        if words[0] == "written":
            return text_of(book, notation, written(book, e))
        if words[0] == "once":
            return text_of(book, notation, once(book, _node_at(e, _path_of(words[1]))))
        if words[0] == "run":
            return _showing(run(book, e, self.state.inputs, MOST_EVENTS))
        many = steps(book, e, self.state.inputs, MOST_EVENTS)
        return "none" if many is None else str(many)


def _fits(words):
    """Tell whether the words ahead of a line feed are those of a deed or a question."""
    if words[0] in WITH_PATHS:
        return len(words) == 2 and _is_path_word(words[1])
    if words[0] == "give":
        return len(words) == 2 and words[1] in FIGURES
    return len(words) == 1 and words[0] in DEEDS + QUESTIONS + WITH_TEXTS


def _is_path_word(word):
    """Tell whether a word tells a path: figures parted by dots, or - for none."""
    return word == "-" or all([len(one) == 1 and one in DIGITS for one in word.split(".")])


def _path_of(word):
    return () if word == "-" else tuple([int(one) for one in word.split(".")])


def _node_at(e, path):
    """Give the node at a path; BadPath."""
    for one, node in nodes_of(e):
        if one == path:
            return node
    raise BadPath("this path leads to no node")


def _showing(showing):
    """Give the words of a showing."""
    events, end = showing
    words = []
    for event in events:
        words.extend([event[0], str(event[1]) if event[0] == "asked" else _worth_word(event[1])])
    words.append(end[0])
    if end[0] == "ends":
        words.append(_worth_word(end[1]))
    elif end[0] == "fails":
        words.append(end[1])
    return " ".join(words)


def _worth_word(worth):
    if worth[0] == "pair":
        return f"({_worth_word(worth[1])} {_worth_word(worth[2])})"
    return str(worth[1])
