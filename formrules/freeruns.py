"""Free runs: runs in which numbers are forgotten, found form by form, over any sums.

A result is a dict that tells for each what to which a node comes a value of some sums: values of several
ways are added, those of what is done one behind another are multiplied. Dim worths are told by their
indexes in a table. A rule is never written out: where it does a place, it asks for an answer, which is the
result of the part that is given for the place, with what is seen there. What it comes to with the same
answers is found once.
"""

from formrules.dims import NO_AT, NUMBER_AT, YES_AT, DimTable
from formrules.scripts import UsesScript

ENDLESS = ("endless",)
ENDS_NUMBER = ("ends", NUMBER_AT)


class Sums:
    """The least sums: whether a run comes to something."""

    def __init__(self):
        self.one = True

    def plus(self, one, other):
        """Give the value of going one way or another one."""
        return True

    def times(self, one, other):
        """Give the value of doing one thing and then another one."""
        return True

    def brought(self, frame, at):
        """Give the value of what a node itself brings."""
        return self.one

    def asked(self):
        """Give the value of one ask that ends."""
        return self.one

    def caught(self, value):
        """Give the value of a fault that was caught."""
        return value

    def used(self, frame, at, result):
        """Give the result of an own use, that of its form being known."""
        return result

    def looped(self, result, turns):
        """Give the result of a loop that can turn, one turn having a value: it lets no more, and no less."""
        return result


class Frame:
    """A rule or an expression at work.

    known has the numbers of the results of its nodes, by what the names that they need say; answers those of
    its places, by place and by what is seen there. Places tells answers at once; if it is None, query tells
    the place where an answer is missing, and behind has the frames with one answer more, by its number. top
    tells whether the nodes are those of what is looked at, rather than of a rule of a form in it.
    """

    def __init__(self, script, places, top):
        self.script = script
        self.places = places
        self.top = top
        self.known = {}
        self.answers = {}
        self.query = None
        self.behind = {}

    def unsaid(self):
        """Give what the first node's names say where none says anything."""
        return tuple([None for _ in self.script.needs[0]])

    def with_answer(self, answer):
        """Give the frame in which the query is answered by the result of a number."""
        if answer not in self.behind:
            made = Frame(self.script, self.places, self.top)
            made.known = {key: self.known[key] for key in self.known}
            made.answers = {key: self.answers[key] for key in self.answers}
            made.answers[self.query] = answer
            self.behind[answer] = made
        return self.behind[answer]


class Total:
    """A result that is gathered: values of one what are added."""

    def __init__(self, sums):
        self.sums = sums
        self.found = {}

    def add(self, what, value):
        """Add a value."""
        self.found[what] = self.sums.plus(self.found[what], value) if what in self.found else value

    def take(self, result):
        """Add all of a result but its ends, and list these as pairs (index of a dim worth, value)."""
        ends = []
        for what in result:
            if what[0] == "ends":
                ends.append((what[1], result[what]))
            else:
                self.add(what, result[what])
        return ends

    def add_behind(self, value, result):
        """Add what is done behind something with a value; list the ends rather than adding them."""
        ends = []
        for what in result:
            both = self.sums.times(value, result[what])
            if what[0] == "ends":
                ends.append((what[1], both))
            else:
                self.add(what, both)
        return ends

    def add_all_behind(self, value, result):
        """Add all that is done behind something with a value."""
        for dim, both in self.add_behind(value, result):
            self.add(("ends", dim), both)


class FreeRuns:
    """Finds what the frames of a shelf's forms come to, over some sums."""

    def __init__(self, shelf, sums):
        self.shelf = shelf
        self.sums = sums
        self.dims = DimTable()
        self.results = []
        self.numbers = {}
        self.frames = {}
        self.due = None

    def result(self, frame, says):
        """Give the result of the first node of a frame that asks nothing, names saying these indexes or None."""
        self.work(frame, 0, says)
        return self.results[frame.known[(0, says)]]

    def numbered(self, result):
        """Give the number of a result, one for equal ones."""
        key = tuple(sorted(result.items()))
        if key not in self.numbers:
            self.numbers[key] = len(self.results)
            self.results.append(result)
        return self.numbers[key]

    def coded(self, what):
        """Give a what as results tell it: dim worths by their indexes, any other fault as an empty word."""
        if what[0] == "ends":
            return ("ends", self.dims.put(what[1]))
        return ("fails", "") if what == ("fails", None) else what

    def decoded(self, what):
        """Give a what of a result with its dim worth; faults stay as they are."""
        return ("ends", self.dims.told[what[1]]) if what[0] == "ends" else what

    def work(self, frame, at, says):
        """Find the result of a node, or the next query of its frame, and all that is due for it."""
        todo = [(frame, at, says)]
        while todo:
            frame, at, says = todo[-1]
            if frame.query is not None or (at, says) in frame.known:
                todo.pop()
                continue
            found = self.found(frame, at, says)
            if found is not None:
                frame.known[(at, says)] = self.numbered(found)
            elif self.due is not None:
                todo.append(self.due)

    def found(self, frame, at, says):
        """Give the result of a node; None where due tells what must be found first, or the frame has a query."""
        self.due = None
        action = FINDS[frame.script.nodes[at][0]]
        return action(self, frame, at, says)

    def part(self, frame, at, says, k, let):
        """Give the result of a part of a node, None if it is due; let is what the name of a let says there."""
        part = frame.script.parts[at][k]
        return self.told(frame, part, tuple([let if one is None else says[one] for one in frame.script.ways[at][k]]))

    def told(self, frame, at, says):
        """Give the result of a node, None if it is due."""
        if (at, says) in frame.known:
            return self.results[frame.known[(at, says)]]
        self.due = (frame, at, says)
        return None

    def of_form(self, pair):
        """Give the frame of a form with so many rows in which nothing is answered yet."""
        if pair not in self.frames:
            script = UsesScript(self.shelf.rule(pair), self.shelf.name_places(pair))
            self.frames[pair] = Frame(script, None, False)
        return self.frames[pair]

    def result_of_use(self, frame, at, says):
        """Give the result of an own use, None if it is due: its form's one, for the answers that its parts give."""
        node = frame.script.nodes[at]
        inner = self.of_form((node[1], len(node[4])))
        while inner.query is not None:
            number = self.answer(frame, at, says, inner.query)
            if number is None:
                return None
            inner = inner.with_answer(number)
        result = self.told(inner, 0, inner.unsaid())
        return None if result is None else self.sums.used(frame, at, result)

    def answer(self, frame, at, says, query):
        """Give the number of the result of the part of an own use for a query, None if it is due."""
        place, seen = query
        script = frame.script
        k = script.placed[at][place]
        part = script.parts[at][k]
        inner = {x: says[one] for x, one in zip(script.needs[part], script.ways[at][k])}
        for name_place, dim in seen:
            x = script.given[at][name_place]
            if x in inner:
                inner[x] = dim
        key = (part, tuple([inner[x] for x in script.needs[part]]))
        if key in frame.known:
            return frame.known[key]
        self.due = (frame,) + key
        return None


def _worth(runs, frame, at, says):
    return {("ends", runs.dims.put(frame.script.nodes[at])): runs.sums.one}


def _number(runs, frame, at, says):
    return {ENDS_NUMBER: runs.sums.one}


def _name(runs, frame, at, says):
    dim = says[frame.script.needs[at].index(frame.script.nodes[at][1])]
    return {} if dim is None else {("ends", dim): runs.sums.one}


def _get(runs, frame, at, says):
    return {ENDS_NUMBER: runs.sums.one, ("reads", frame.script.nodes[at][1]): runs.sums.brought(frame, at)}


def _ask(runs, frame, at, says):
    return {ENDS_NUMBER: runs.sums.asked(), ("asks",): runs.sums.brought(frame, at)}


def _fail(runs, frame, at, says):
    return {("fails", frame.script.nodes[at][1]): runs.sums.brought(frame, at)}


def _place(runs, frame, at, says):
    """Give the answer of a place with what is seen there, or note the query."""
    needs = frame.script.needs[at]
    seen = tuple([(x, dim) for x, dim in zip(needs, says) if isinstance(x, tuple) and dim is not None])
    query = (frame.script.nodes[at], seen)
    if query not in frame.answers:
        if frame.places is None:
            frame.query = query
            return None
        frame.answers[query] = frame.places.answer(query[0], seen)
    return runs.results[frame.answers[query]]


def _let(runs, frame, at, says):
    first = runs.part(frame, at, says, 0, None)
    if first is None:
        return None
    total = Total(runs.sums)
    for dim, value in total.take(first):
        last = runs.part(frame, at, says, 1, dim)
        if last is None:
            return None
        total.add_all_behind(value, last)
    return total.found


def _two(runs, frame, at, says):
    """Give the result of a node that does two parts one behind the other."""
    first = runs.part(frame, at, says, 0, None)
    if first is None:
        return None
    total = Total(runs.sums)
    ends = total.take(first)
    if not ends:
        return total.found
    second = runs.part(frame, at, says, 1, None)
    if second is None:
        return None
    head = frame.script.nodes[at][0]
    for dim, value in ends:
        for other, both in total.add_behind(value, second):
            for made in _made(runs.dims, head, dim, other):
                total.add(("ends", made), both)
    return total.found


def _made(dims, head, one, other):
    """List the indexes of what a node with two parts ends with, none where it is stuck."""
    if head == "pair":
        return [dims.pair(one, other)]
    if head == "then":
        return [other]
    if one != NUMBER_AT or other != NUMBER_AT:
        return []
    return [NUMBER_AT] if head == "plus" else [YES_AT, NO_AT]


def _one(runs, frame, at, says):
    """Give the result of a node with one part."""
    first = runs.part(frame, at, says, 0, None)
    if first is None:
        return None
    node = frame.script.nodes[at]
    total = Total(runs.sums)
    for dim, value in total.take(first):
        brought = runs.sums.times(value, runs.sums.brought(frame, at))
        if node[0] == "show":
            total.add(("shows",), brought)
            total.add(("ends", dim), value)
        elif node[0] == "set":
            if dim == NUMBER_AT:
                total.add(("sets", node[1]), brought)
                total.add(("ends", dim), value)
        elif runs.dims.halves[dim] is not None:
            total.add(("ends", runs.dims.halves[dim][0 if node[0] == "first" else 1]), value)
    return total.found


def _if(runs, frame, at, says):
    first = runs.part(frame, at, says, 0, None)
    if first is None:
        return None
    total = Total(runs.sums)
    for dim, value in total.take(first):
        if dim in (YES_AT, NO_AT):
            chosen = runs.part(frame, at, says, 1 if dim == YES_AT else 2, None)
            if chosen is None:
                return None
            total.add_all_behind(value, chosen)
    return total.found


def _while(runs, frame, at, says):
    test = runs.part(frame, at, says, 0, None)
    if test is None:
        return None
    total = Total(runs.sums)
    turns = None
    for dim, value in total.take(test):
        if dim == NO_AT:
            total.add(ENDS_NUMBER, value)
        elif dim == YES_AT:
            body = runs.part(frame, at, says, 1, None)
            if body is None:
                return None
            for _, turn in total.add_behind(value, body):
                total.add(ENDLESS, runs.sums.times(turn, runs.sums.brought(frame, at)))
                turns = turn if turns is None else runs.sums.plus(turns, turn)
    return total.found if turns is None else runs.sums.looped(total.found, turns)


def _catch(runs, frame, at, says):
    first = runs.part(frame, at, says, 0, None)
    if first is None:
        return None
    fault = ("fails", frame.script.nodes[at][1])
    total = Total(runs.sums)
    for what in first:
        if what != fault:
            total.add(what, first[what])
    if fault in first:
        last = runs.part(frame, at, says, 1, None)
        if last is None:
            return None
        total.add_all_behind(runs.sums.caught(first[fault]), last)
    return total.found


def _own(runs, frame, at, says):
    return runs.result_of_use(frame, at, says)


FINDS = {
    "number": _number, "truth": _worth, "name": _name, "let": _let, "pair": _two, "first": _one, "second": _one,
    "plus": _two, "less": _two, "if": _if, "while": _while, "then": _two, "get": _get, "set": _one, "show": _one,
    "ask": _ask, "fail": _fail, "catch": _catch, "own": _own, "part": _place, "here": _place,
}
