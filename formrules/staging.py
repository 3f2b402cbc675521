"""Stages: programs around a use of a form whose parts show all that they see, and do what inputs tell.

What a part shows is a pair that begins with a mark, which is a deeper worth than any that the forms can
make by themselves; the names of the use say the mark around it. Inputs are 0 and 5 alone: 0 for yes, for
going on without a fault, and for all things but one at most.
"""

from formrules.freenames import free_names
from formrules.merging import terms_of
from formrules.pairing import FREEDOMS
from formrules.places import outcomes_from, things_of
from formrules.shapes import FIELDS, assembled, nodes_of

ASK = ("ask",)
YES = ("truth", "yes")
LOW = 0
HIGH = 5
# An input says yes if it is below this number.
SAYS_YES = ("less", ASK, ("number", 1))
FIGURES = 8


def number_of(k):
    """Give an expression for a number, however great it is."""
    return ("number", k) if k < FIGURES else ("pair", number_of(k // FIGURES), number_of(k % FIGURES))


def pairs_of(parts):
    """Give one pair of pairs of these expressions."""
    e = parts[-1]
    for part in parts[-2::-1]:
        e = ("pair", part, e)
    return e


def given(kind):
    """Give an expression that comes to what inputs tell, of a kind whose unknowns are numbers."""
    if kind[0] == "pair":
        return ("pair", given(kind[1]), given(kind[2]))
    return SAYS_YES if kind[0] == "truth" else ASK


def _depth_of(kind):
    return 1 + max(_depth_of(kind[1]), _depth_of(kind[2])) if kind[0] == "pair" else 0


def _deepest(script, depths):
    """Give how deep the pairs nest that a script can make at most, out of what is so deep at places."""
    found = [0]
    todo = [("begin", 0, dict(depths))]
    worths = []
    while todo:
        word, at, names = todo.pop()
        node = script.nodes[at]
        parts = script.parts[at]
        if word == "begin" and node[0] == "let":
            todo.extend([("bound", at, names), ("begin", parts[0], names)])
        elif word == "begin":
            todo.append(("end", at, names))
            todo.extend([("begin", part, names) for part in parts])
        elif word == "bound":
            inner = {x: depth for x, depth in names.items()}
            inner[node[1]] = worths.pop()
            todo.append(("begin", parts[1], inner))
        else:
            below = [worths.pop() for _ in parts]
            deep = max([0] + below)
            if node[0] in ("name", "part", "here"):
                deep = names[node if node[0] != "name" else node[1]]
            worths.append(deep + 1 if node[0] == "pair" else deep)
            found.append(worths[-1])
    return max(found)


class Stage:
    """A program around a use of one of two forms, and the inputs by which its run goes a way of their plays.

    allowed tells for each part place a list of freedoms; None: all.
    """

    def __init__(self, plays, use, told, allowed):
        self.plays = plays
        self.use = use
        self.cells = list(plays.cells)
        self.kinds = dict(told[2])
        self.allowed = {place: FREEDOMS for place in self.kinds} if allowed is None else allowed
        nodes = [node for script in plays.scripts() for node in script.nodes]
        self.faults = sorted({node[1]: True for node in nodes if FIELDS.get(node[0], ())[:1] == ("fault",)})
        depths = {place: _depth_of(kind) for place, kind in self.kinds.items()}
        self.depth = 1 + max([_deepest(script, depths) for script in plays.scripts()])
        places = [place for place, _ in told[1]] + [place for place, _ in plays.settled]
        words = free_names({}, 2 + len(places))
        self.mark, self.result = ("name", words[0]), ("name", words[1])
        self.words = {place: x for place, x in zip(places, words[2:])}
        self.names = [self.words[place] for place, _ in told[1]]

    def program(self):
        """Give the program: the mark, cells as inputs tell, the names, settled parts, and the use in catches."""
        e = ("let", self.result[1], self._use(), self._showing(0, [self.result]))
        for k, fault in enumerate(self.faults, start=1):
            e = ("catch", fault, e, self._showing(k, []))
        for place, kind in self.plays.settled[::-1]:
            e = ("let", self.words[place], given(kind), e)
        for x in self.names:
            e = ("let", x, self.mark, e)
        e = self._with_cells(e)
        return ("let", self.mark[1], pairs_of([("number", 0)] * (self.depth + 1)), e)

    def _showing(self, k, more):
        """Give an expression that shows with which end it came, what more there is, and what the cells hold."""
        return ("then", self._show([number_of(k)] + more), ("number", 0))

    def _show(self, parts):
        return ("show", pairs_of([self.mark] + parts + [("get", cell) for cell in self.cells]))

    def _with_cells(self, e):
        """Give an expression that does another one behind putting inputs into the cells."""
        for cell in self.cells[::-1]:
            e = ("then", ("set", cell, ASK), e)
        return e

    def _use(self):
        parts = {place: self._part(k, place) for k, place in enumerate(self.kinds)}
        return assembled([node for _, node in nodes_of(self.use)], self.words, parts)

    def _part(self, k, place):
        """Give a part that shows what it sees, then asks what it shall put into the cells, and what it shall do."""
        allowed = self.allowed[place]
        if "varies" not in allowed:
            return ("name", self.words[place])
        e = given(self.kinds[place])
        if "fails" in allowed and self.faults:
            e = ("if", SAYS_YES, e, self._failing())
        if "sets" in allowed:
            e = self._with_cells(e)
        return ("then", self._show([number_of(k)] + [("name", x) for x in self.names]), e)

    def _failing(self):
        """Give an expression that fails as inputs tell."""
        e = ("fail", self.faults[-1])
        for fault in self.faults[-2::-1]:
            e = ("if", SAYS_YES, ("fail", fault), e)
        return e

    def inputs(self, ks, way):
        """List inputs by which the run goes a way to what is unlike, and tells it."""
        steps, high = self._traced(ks, way)
        inputs = [self._said(thing, high) for thing in range(len(self.cells))]
        first = len(self.cells)
        for k, (_, kind) in zip(ks, self.plays.settled):
            inputs.extend(self._giving(outcomes_from(kind, first)[k], high))
            first += len(things_of(kind))
        for what, answer, first in steps:
            if what[0] == "asks":
                inputs.append(self._said(first, high))
            elif what[0] == "does":
                inputs.extend(self._answering(what[1], answer, first, high))
        return inputs

    def _said(self, thing, high):
        return HIGH if thing == high else LOW

    def _giving(self, term, high):
        """List the inputs by which what is given is a term."""
        if term[0] == "pair":
            return self._giving(term[1], high) + self._giving(term[2], high)
        if term[0] == "truth":
            return [LOW if term == YES else HIGH]
        return [self._said(term[1], high)]

    def _answering(self, place, answer, first, high):
        """List the inputs by which a place is answered, new things being numbered from first on."""
        term = None
        behind = first
        if answer[0] == "ends":
            term = outcomes_from(self.kinds[place], first)[answer[1]]
            behind += len(things_of(self.kinds[place]))
        inputs = []
        if "sets" in self.allowed[place]:
            inputs.extend([self._said(behind + at, high) for at in range(len(self.cells))])
        if term is None:
            k = self.faults.index(answer[1])
            last = k == len(self.faults) - 1
            return inputs + [HIGH] * (k + 1) + ([] if last else [LOW])
        if "fails" in self.allowed[place] and self.faults:
            inputs.append(LOW)
        return inputs + self._giving(term, high)

    def _traced(self, ks, way):
        """List (what comes, its answer, number of the first new thing) along a way, and tell the high thing."""
        pairing = self.plays.pairing
        ons = self.plays.ons(ks)
        first = len(self.cells) + sum([len(things_of(kind)) for _, kind in self.plays.settled])
        steps = []
        mine, its = list(ons[0][1]), list(ons[1][1])
        for (_, at), (answer, _) in zip(way, way[1:]):
            one, other, _ = pairing.pairs[at]
            kinds, what = pairing.one.row(one)
            on, matching = pairing.ons(at, answer)
            mine = [mine[thing] if thing < len(kinds) else first + thing - len(kinds) for thing in on[1]]
            known = len(pairing.other.row(other)[0])
            its = [its[thing] if thing < known else first + thing - known for thing in matching[1]]
            steps.append((what, answer, first))
            first += self._new(what, answer)
        one, other, _ = pairing.pairs[way[-1][1]]
        return steps, telling_thing(pairing.one.row(one)[1], mine, pairing.other.row(other)[1], its)

    def _new(self, what, answer):
        """Give how many new things come at an event with its answer."""
        if what[0] != "does":
            return 1 if what[0] == "asks" else 0
        many = len(things_of(self.kinds[what[1]])) if answer[0] == "ends" else 0
        return many + (len(self.cells) if "sets" in self.allowed[what[1]] else 0)


def telling_thing(one, mine, other, its):
    """Give the thing that must be high so that two unlike events or ends are seen to be unlike, None for none.

    mine and its list the numbers of the things of both.
    """
    if one[0] != other[0] or (one[0] in ("does", "fails") and one[1] != other[1]):
        return None
    todo = list(zip(terms_of(one), terms_of(other)))[::-1]
    while todo:
        term, rival = todo.pop()
        if None in (term, rival) or term[0] != rival[0]:
            if term != rival:
                return _thing_unlike_number(term, mine, rival, its)
        elif term[0] == "pair":
            todo.extend([(term[2], rival[2]), (term[1], rival[1])])
        elif term[0] != "thing" and term != rival:
            return None
        elif term[0] == "thing" and mine[term[1]] != its[rival[1]]:
            return its[rival[1]]
    return None


def _thing_unlike_number(term, mine, rival, its):
    """Give the thing that must be high so that a thing is no number 0, None if it need not."""
    if term == ("number", LOW) and rival is not None and rival[0] == "thing":
        return its[rival[1]]
    if rival == ("number", LOW) and term is not None and term[0] == "thing":
        return mine[term[1]]
    return None
