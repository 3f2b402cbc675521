"""Reading words one by one, and what stretches of them tell.

A stretch is a row of marks. A mark is an atom; or a node with its words, the parts at its open ends aside, which
are made of other marks of the stretch; or a pair of brackets with a stretch between them.
"""

from formrules.patterns import Filling
from formrules.terms import TRUTHS
from formrules.words import is_name

A_NAME = "a name"
THE_END = "the end"
FIGURES = ("0", "1", "2", "3", "4", "5", "6", "7")
BRACKETS = (("word", "("), ("part", 0), ("word", ")"))
# Heads of leaves of templates, behind which a figure stands, and of those that stand where a name may stand.
LEAVES = ("part", "here")
PLACED = ("bind", "row")


class Told:
    """An expression that some words tell: those from first on, ahead of last; outer has these two, brackets among them.

    parts lists what is told of its parts, in order.
    """

    def __init__(self, e, span, outer, parts):
        self.e = e
        self.span = span
        self.outer = outer
        self.parts = parts


class Meaning:
    """What a stretch tells: in how many ways, and two of these; if there are more than one, they are unlike."""

    def __init__(self, many, most, least):
        self.many = many
        self.most = most
        self.least = least

    def side(self, most):
        """Give the one in which nodes open in front take as much as they can, or the other one."""
        return self.most if most else self.least


class Mark:
    """A mark of a stretch: an atom, or what is filled into the pieces of a production, None for brackets."""

    def __init__(self, production, atom, first):
        self.production = production
        self.atom = atom
        self.filling = Filling()
        self.span = (first, first + 1)
        self.front = production is not None and production.front
        self.back = production is not None and production.back

    def meanings(self):
        """List the meanings of the parts between its words, those of rows among them."""
        found = list(self.filling.parts.values())
        for row in self.filling.rows:
            found.extend(list(row.parts.values()))
        return found

    def told(self, front, back, most):
        """Give what the mark tells with what is told at its open ends."""
        if self.atom is not None:
            return Told(self.atom, self.span, self.span, [])
        if self.production is None:
            inner = self.filling.parts[0].side(most)
            return Told(inner.e, inner.span, self.span, inner.parts)
        parts = {i: meaning.side(most) for i, meaning in self.filling.parts.items()}
        span = self.span
        if front is not None:
            parts[self.production.pieces[0][1]] = front
            span = (front.outer[0], span[1])
        if back is not None:
            parts[self.production.pieces[-1][1]] = back
            span = (span[0], back.outer[1])
        below = [parts[i] for i in sorted(parts)]
        filled = _with_expressions(self.filling, parts)
        for row in self.filling.rows:
            told = {i: meaning.side(most) for i, meaning in row.parts.items()}
            below.extend([told[i] for i in sorted(told)])
            filled.rows.append(_with_expressions(row, told))
        return Told(self.production.made(filled), span, span, below)


def _with_expressions(filling, parts):
    """Give what is filled in with expressions for its parts."""
    found = Filling()
    found.names = filling.names
    found.word = filling.word
    found.parts = {i: told.e for i, told in parts.items()}
    return found


class Stretch:
    """The marks of a stretch; due tells whether an expression is due, closed whether a mark is open behind.

    filling and at tell where what it means is filled in.
    """

    def __init__(self, filling, at):
        self.filling = filling
        self.at = at
        self.marks = []
        self.due = True
        self.closed = False

    def meaning(self):
        """Give what the stretch tells."""
        many = self._ways()
        for mark in self.marks:
            for inner in mark.meanings():
                many *= inner.many
        most = self._told(True)
        return Meaning(many, most, most if many == 1 else self._told(False))

    def _ways(self):
        """Give the number of ways in which the marks can belong together.

        ways tells for each number of nodes that wait for their last part in how many ways there are so many. A
        node open in front takes what as many of the last ones have come to as it likes.
        """
        ways = [1]
        for mark in self.marks:
            if mark.front:
                for at in range(len(ways) - 2, -1, -1):
                    ways[at] += ways[at + 1]
            if mark.back:
                ways.insert(0, 0)
        return sum(ways)

    def _told(self, most):
        """Give one of the ways: nodes open in front take all that is there, or as little as they can."""
        waiting = []
        told = None
        for mark in self.marks:
            front = None
            if mark.front:
                while most and waiting:
                    told = self._ended(waiting.pop(), told, most)
                front = told
            if mark.back:
                waiting.append((mark, front))
            else:
                told = mark.told(front, None, most)
        while waiting:
            told = self._ended(waiting.pop(), told, most)
        return told

    def _ended(self, waiting, told, most):
        mark, front = waiting
        return mark.told(front, told, most)


class OpenNode:
    """A node, or a pair of brackets, that wants more words; at is the index of the next piece.

    row is what is filled in for the row at work, None outside of rows; within tells the next piece of that.
    """

    def __init__(self, mark, pieces, at):
        self.mark = mark
        self.pieces = pieces
        self.at = at
        self.row = None
        self.within = 0
        self.used = {}

    def filling(self):
        """Give what is filled in where the next piece stands."""
        return self.mark.filling if self.row is None else self.row

    def piece(self):
        """Give the next piece; None at the end."""
        if self.row is not None and self.within < len(self.pieces[self.at][1]):
            return self.pieces[self.at][1][self.within]
        return self.pieces[self.at] if self.at < len(self.pieces) else None

    def step(self):
        """Go on behind the next piece."""
        if self.row is None:
            self.at += 1
        else:
            self.within += 1

    def takes_of_rows(self, word):
        """Take a word where a row may begin or the rows may end; tell whether it can stand there."""
        _, pieces, end = self.pieces[self.at]
        if word == pieces[0][1]:
            self.row = Filling()
            self.mark.filling.rows.append(self.row)
            self.within = 1
        elif word == end:
            self.row = None
            self.at += 1
        else:
            return False
        return True


class Parser:
    """Reads words by a grammar; places tells those of the template that is read, None for expressions.

    strict tells whether words are refused that would give a second reading. figures has, where a figure is due,
    the head ahead of it, and those that can stand; frames has stretches and open nodes, each within the one ahead.
    """

    def __init__(self, grammar, places, strict):
        self.grammar = grammar
        self.places = places
        self.strict = strict
        self.frames = [Stretch(None, 0)]
        self.figures = None
        self.many = 0

    def whole(self):
        """Tell whether the words so far tell an expression."""
        return len(self.frames) == 1 and not self.frames[0].due and self.figures is None

    def meaning(self):
        """Give what the words tell, which are whole."""
        return self.frames[0].meaning()

    def takes(self, word):
        """Take a word; tell whether it can stand here."""
        if not self._can_take(word):
            return False
        self.many += 1
        return True

    def _can_take(self, word):
        if self.figures is not None:
            return self._take_figure(word)
        frame = self.frames[-1]
        if isinstance(frame, OpenNode):
            return self._take_in_node(frame, word)
        if frame.due:
            return self._take_operand(frame, word)
        if word in self.grammar.behinds:
            return self._take_behind(frame, self.grammar.behinds[word])
        if len(self.frames) == 1 or word not in self._due_in(self.frames[-2]):
            return False
        frame.filling.parts[frame.at] = frame.meaning()
        self.frames.pop()
        return self._take_in_node(self.frames[-1], word)

    def _take_operand(self, stretch, word):
        if word in FIGURES:
            return self._put_atom(stretch, ("number", int(word)))
        if word in TRUTHS:
            return self._put_atom(stretch, ("truth", word))
        if is_name(word):
            return self._put_atom(stretch, ("name", word))
        if word == "(":
            self.frames.append(OpenNode(Mark(None, None, self.many), BRACKETS, 1))
            return self._go_on()
        if word in self.grammar.starts:
            one = self.grammar.starts[word]
            self.frames.append(OpenNode(Mark(one, None, self.many), one.pieces, 1))
            return self._go_on()
        if word == "rest" and word in self._leaf_words():
            return self._put_atom(stretch, ("rest",))
        return word in self._leaf_words() and self._await_figure(word, {})

    def _put_atom(self, stretch, atom):
        stretch.marks.append(Mark(None, atom, self.many))
        stretch.due = False
        return True

    def _take_behind(self, stretch, production):
        if self.strict and stretch.closed:
            return False
        self.frames.append(OpenNode(Mark(production, None, self.many), production.pieces, 2))
        return self._go_on()

    def _go_on(self):
        """Go on to where a word is due: begin a part between words, or end the node where no word comes any more."""
        node = self.frames[-1]
        piece = node.piece()
        last = node.row is None and node.at == len(node.pieces) - 1
        if piece is None or (piece[0] == "part" and last):
            self.frames.pop()
            mark = node.mark
            mark.span = (mark.span[0], self.many + 1)
            stretch = self.frames[-1]
            stretch.marks.append(mark)
            stretch.due = mark.back
            stretch.closed = stretch.closed or mark.back
        elif piece[0] == "part":
            self.frames.append(Stretch(node.filling(), piece[1]))
            node.step()
        return True

    def _take_in_node(self, node, word):
        piece = node.piece()
        if piece[0] == "rows":
            return node.takes_of_rows(word) and self._go_on()
        if piece[0] == "word":
            if word != piece[1]:
                return False
        elif piece[0] == "cell" or (piece[0] == "fault" and is_name(word)):
            if piece[0] == "cell" and word not in self.grammar.cells:
                return False
            filling = node.filling()
            filling.word = word
        elif piece[0] == "name" and is_name(word):
            return self._put_name(node, word)
        else:
            return piece[0] == "name" and word in self._name_words(node) and self._await_figure(word, node.used)
        node.step()
        return self._go_on()

    def _put_name(self, node, x):
        """Give a name to the next piece of a node; a use has each name once."""
        if x in node.used:
            return False
        node.used[x] = True
        node.filling().names[node.piece()[1]] = x
        node.step()
        return self._go_on()

    def _await_figure(self, head, used):
        self.figures = (head, [i for i in range(self._many_of(head)) if (head, i) not in used])
        return True

    def _take_figure(self, word):
        head, let = self.figures
        if word not in FIGURES or int(word) not in let:
            return False
        self.figures = None
        place = (head, int(word))
        frame = self.frames[-1]
        if isinstance(frame, OpenNode):
            return self._put_name(frame, place)
        self._put_atom(frame, ("name", place) if head in PLACED else place)
        mark = frame.marks[-1]
        mark.span = (self.many - 1, self.many + 1)
        return True

    def _many_of(self, head):
        """Give how many places with a head the template has."""
        binds, parts, row = self.places
        if head in ("bind", "part"):
            return binds if head == "bind" else parts
        if row is None:
            return 0
        return row[0] if head == "row" else row[1]

    def _leaf_words(self):
        """List the words with which leaves of a template begin, and names that are no words."""
        if self.places is None:
            return []
        words = [head for head in LEAVES + PLACED if self._many_of(head)]
        return words if self.places[2] is None else words + ["rest"]

    def _name_words(self, node):
        """List the words with which a name begins that is no word, where a node has some already."""
        heads = [] if self.places is None else PLACED
        return [head for head in heads if any([(head, i) not in node.used for i in range(self._many_of(head))])]

    def _due_in(self, node):
        """List the words that can stand next in a node."""
        piece = node.piece()
        if piece[0] == "rows":
            return [piece[1][0][1], piece[2]]
        if piece[0] == "word":
            return [piece[1]]
        if piece[0] == "cell":
            return list(self.grammar.cells)
        return [A_NAME] + (self._name_words(node) if piece[0] == "name" else [])

    def wanted(self):
        """Give the ascending tuple of the words that can stand next."""
        frame = self.frames[-1]
        if self.figures is not None:
            found = [str(i) for i in self.figures[1]]
        elif isinstance(frame, OpenNode):
            found = self._due_in(frame)
        elif frame.due:
            found = list(FIGURES + TRUTHS) + [A_NAME, "("] + list(self.grammar.starts) + self._leaf_words()
        else:
            found = [] if self.strict and frame.closed else list(self.grammar.behinds)
            found.extend([THE_END] if len(self.frames) == 1 else self._due_in(self.frames[-2]))
        return tuple(sorted(found))
