"""A player works out a script with terms in the place of worths, up to the next event or end.

What is still to be done is a list of frames, the innermost one last. A frame is a tuple: a word for what
is to be done, the number of a node, a tuple of terms, which begins with what the names that are still
needed say (None where nothing is let), and the number of a row for an own use that a sheet plays.
"""

from formrules.places import outcomes_from

NUMBER_0 = ("number", 0)
YES = ("truth", "yes")


class Player:
    """What is known while a script is worked out; what has the event or end that comes, None ahead of it."""

    def __init__(self, script, cells, frames, held):
        self.script = script
        self.cells = cells
        self.frames = list(frames)
        self.held = list(held)
        self.what = None
        self.turns = {}

    def go(self):
        """Work on until an event or end comes, and give it."""
        while self.what is None:
            word, node, terms, row = self.frames.pop()
            if word == "give":
                self._give(terms[0])
            elif word == "row":
                self._enter(node, terms, row)
            else:
                action = BEGINS[self.script.nodes[node][0]]
                action(self, node, terms)
        return self.what

    def end(self, *what):
        """Note an event or end."""
        self.what = what

    def push(self, word, node, terms):
        """Put a frame in front of the others."""
        self.frames.append((word, node, tuple(terms), 0))

    def give(self, term):
        """Let a term be the worth of what was last begun."""
        self.push("give", 0, (term,))

    def begin(self, node, terms, k):
        """Begin a part of a node in which names say these terms."""
        self.push("begin", self.script.parts[node][k], self.known(node, terms, k, None))

    def known(self, node, terms, k, let):
        """List what names say in a part of a node; let is the worth of the name of a let."""
        return [let if at is None else terms[at] for at in self.script.ways[node][k]]

    def _give(self, term):
        if self.frames:
            word, node, terms, row = self.frames.pop()
            action = TAKES[word]
            action(self, node, terms, row, term)
        else:
            self.end("ends", term, tuple(self.held))

    def fail(self, fault):
        """Go back to the nearest frame that catches a fault, or end with it."""
        while self.frames:
            word, node, terms, row = self.frames.pop()
            if word == "catch" and self.script.nodes[node][1] == fault:
                self.push("begin", self.script.parts[node][1], terms)
                return
            if word == "use" and fault in self.caught(node, row):
                self.follow(node, terms, row, self.caught(node, row)[fault], list(self.held))
                return
        self.end("fails", fault, tuple(self.held))

    def faults(self):
        """List the faults that would be caught, ascending."""
        found = {}
        for word, node, _, row in self.frames:
            if word == "catch":
                found[self.script.nodes[node][1]] = True
            elif word == "use":
                found.update({fault: True for fault in self.caught(node, row)})
        return sorted(found)

    def turn(self, words):
        """Note that a loop turns here, what it goes by being told by words; tell whether it did so before.

        No event has come since the player was made, so what turns once more then turns for ever.
        """
        seen = self.turns.setdefault(len(self.frames), {})
        key = tuple(words)
        if key in seen:
            return True
        seen[key] = True
        return False

    def caught(self, node, row):
        """Give the dict from faults to ons of the row that plays an own use."""
        what = self.script.sheet(node)[0][1][row][1]
        return {fault: on for fault, on in what[5]} if what[0] == "does" else {}

    def play(self, node, terms):
        """Begin to play an own use by its sheet."""
        self.turns[len(self.frames)] = {}
        things = [self.held[at] for at in self.script.sheet(node)[0][0]]
        self._enter(node, terms + tuple(things), 0)

    def follow(self, node, terms, row, on, new):
        """Go on with the row that an on tells; new has the terms of its new things."""
        known = len(self.script.needs[node])
        held = list(terms[known:]) + list(new)
        self.frames.append(("row", node, terms[:known] + tuple([held[at] for at in on[1]]), on[0]))

    def _enter(self, node, terms, row):
        """Play a row of the sheet of an own use."""
        what = self.script.sheet(node)[0][1][row][1]
        known = len(self.script.needs[node])
        things = terms[known:]
        if what[0] == "never" or self.turn([row] + words_of_terms(things) + words_of_terms(self.held)):
            self.end("never")
        elif what[0] == "does":
            self.held = [filled(term, things) for term in what[3]]
            self.frames.append(("use", node, terms, row))
            seen = [None if term is None else filled(term, things) for term in what[2]]
            self._begin_placed(node, terms, what[1], seen)
        elif what[0] == "shows":
            self.follow(node, terms, row, what[2], [])
            self.end("shows", filled(what[1], things))
        elif what[0] == "asks":
            self.frames.append(("asking", node, terms, row))
            self.end("asks")
        else:
            self.held = [filled(term, things) for term in what[2]]
            if what[0] == "ends":
                self.give(filled(what[1], things))
            else:
                self.fail(what[1])

    def _begin_placed(self, node, terms, place, seen):
        """Begin the part that is given for a place of an own use, with what is seen there."""
        k = self.script.placed[node][place]
        part = self.script.parts[node][k]
        says = {x: term for x, term in zip(self.script.needs[part], self.known(node, terms, k, None))}
        for x, term in zip(self.script.given[node].values(), seen):
            if term is not None and x in says:
                says[x] = term
        self.push("begin", part, list(says.values()))


def filled(term, things):
    """Give a term with these terms in the place of its things."""
    if term[0] == "pair":
        return ("pair", filled(term[1], things), filled(term[2], things))
    return things[term[1]] if term[0] == "thing" else term


def words_of_terms(terms):
    """List words that tell some terms."""
    words = []
    todo = list(terms)[::-1]
    while todo:
        term = todo.pop()
        if term is None or term[0] == "pair":
            words.append(None if term is None else "pair")
            todo.extend([] if term is None else [term[2], term[1]])
        else:
            words.extend(term)
    return words


def outcome_of(kind, term):
    """Give the index of the outcome of a kind that a term is, and the list of what stands for its things."""
    if kind[0] == "truth":
        return (0 if term == YES else 1), []
    if kind[0] != "pair":
        return 0, [term]
    first, ones = outcome_of(kind[1], term[1])
    second, others = outcome_of(kind[2], term[2])
    return first * len(outcomes_from(kind[2], 0)) + second, ones + others


def _begin_worth(player, node, terms):
    player.give(player.script.nodes[node])


def _begin_name(player, node, terms):
    player.give(terms[0])


def _begin_let(player, node, terms):
    player.push("let", node, player.known(node, terms, 1, None))
    player.begin(node, terms, 0)


def _begin_pair(player, node, terms):
    player.push("second", node, player.known(node, terms, 1, None))
    player.begin(node, terms, 0)


def _begin_one(player, node, terms):
    player.push("one", node, ())
    player.begin(node, terms, 0)


def _begin_if(player, node, terms):
    player.push("if", node, terms)
    player.begin(node, terms, 0)


def _begin_while(player, node, terms):
    player.turns[len(player.frames)] = {}
    _turn(player, node, terms)


def _turn(player, node, terms):
    if player.turn(words_of_terms(player.held)):
        player.end("never")
    else:
        player.push("test", node, terms)
        player.begin(node, terms, 0)


def _begin_get(player, node, terms):
    player.give(player.held[player.cells.index(player.script.nodes[node][1])])


def _begin_ask(player, node, terms):
    player.end("asks")


def _begin_fail(player, node, terms):
    player.fail(player.script.nodes[node][1])


def _begin_catch(player, node, terms):
    player.push("catch", node, player.known(node, terms, 1, None))
    player.begin(node, terms, 0)


def _begin_place(player, node, terms):
    player.end("does", player.script.nodes[node], tuple(terms), tuple(player.held))


def _begin_own(player, node, terms):
    player.play(node, terms)


def _take_let(player, node, terms, row, term):
    says = [term if at is None else one for at, one in zip(player.script.ways[node][1], terms)]
    player.push("begin", player.script.parts[node][1], says)


def _take_first(player, node, terms, row, term):
    """Go on with the second part; that of a pair has the first worth beside it."""
    if player.script.nodes[node][0] == "pair":
        player.push("pair", node, (term,))
    player.push("begin", player.script.parts[node][1], terms)


def _take_pair(player, node, terms, row, term):
    player.give(("pair", terms[0], term))


def _take_one(player, node, terms, row, term):
    """End a node with one part."""
    head = player.script.nodes[node][0]
    if head == "set":
        player.held[player.cells.index(player.script.nodes[node][1])] = term
    player.give(term if head in ("set", "show") else term[1 if head == "first" else 2])
    if head == "show":
        player.end("shows", term)


def _take_if(player, node, terms, row, term):
    player.begin(node, terms, 1 if term == YES else 2)


def _take_test(player, node, terms, row, term):
    if term == YES:
        player.push("body", node, terms)
        player.begin(node, terms, 1)
    else:
        player.give(NUMBER_0)


def _take_body(player, node, terms, row, term):
    _turn(player, node, terms)


def _take_caught(player, node, terms, row, term):
    player.give(term)


def _take_use(player, node, terms, row, term):
    """Go on with the row for what a place of an own use has come to."""
    sheet, kinds = player.script.sheet(node)
    what = sheet[1][row][1]
    k, new = outcome_of(kinds[what[1]], term)
    player.follow(node, terms, row, what[4][k], new + player.held)


def _take_asked(player, node, terms, row, term):
    what = player.script.sheet(node)[0][1][row][1]
    player.follow(node, terms, row, what[1], [term])


BEGINS = {
    "number": _begin_worth, "truth": _begin_worth, "name": _begin_name, "let": _begin_let, "pair": _begin_pair,
    "first": _begin_one, "second": _begin_one, "if": _begin_if, "while": _begin_while, "then": _begin_pair,
    "get": _begin_get, "set": _begin_one, "show": _begin_one, "ask": _begin_ask, "fail": _begin_fail,
    "catch": _begin_catch, "part": _begin_place, "here": _begin_place, "own": _begin_own,
}
TAKES = {
    "let": _take_let, "second": _take_first, "pair": _take_pair, "one": _take_one, "if": _take_if,
    "test": _take_test, "body": _take_body, "catch": _take_caught, "use": _take_use, "asking": _take_asked,
}
