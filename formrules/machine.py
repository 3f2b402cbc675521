"""A machine that works out core expressions, task by task.

A task is a tuple: a word for what is to be done, the node, the names that are let around it, and
what else must be known. Names are a chain of triples (name, worth, chain around it), None at its
end. The worths of parts that have ended lie on a stack.
"""

from formrules.shapes import kids
from formrules.terms import MOST_NUMBER

# Nodes of which at first only the first part is worked out.
LED_BY_FIRST = ("let", "if")
# Nodes that stand only in what is not written out.
OTHERS = ("own", "part", "here")


class Machine:
    """What is known while one core expression is worked out."""

    def __init__(self, cells, inputs, most):
        self.cells = {cell: 0 for cell in cells}
        self.inputs = inputs
        self.most = most
        self.events = []
        self.asked = 0
        self.steps = 0
        self.todo = []
        self.worths = []
        self.end = None

    def work(self, e):
        """Work out an expression until there is an end."""
        self.todo.append(("begin", e, None, None))
        while self.end is None:
            if self.todo:
                word, node, names, more = self.todo.pop()
                action = ACTIONS[word]
                action(self, node, names, more)
            else:
                self.end = ("ends", self.worths.pop())

    def plan(self, word, node, names, more):
        """Put a task ahead of all others."""
        self.todo.append((word, node, names, more))

    def tick(self):
        """Note that a node is begun."""
        self.steps += 1

    def note(self, what):
        """Note that a cell was read or set; here nobody asks."""

    def tell(self, event):
        """Add an event, or end where it is one too many."""
        if len(self.events) == self.most:
            self.end = ("more",)
        else:
            self.events.append(event)

    def enter(self, node, names):
        """Begin an own use, or what is given for a place of a rule; core expressions have none of these."""

    def leave(self, place, seen, outcome):
        """Note how what was given for a place has ended; core expressions have no places."""

    def taken(self, heads):
        """Take the last worths, in order, and list what they hold; be stuck if a head is another one."""
        worths = [self.worths.pop() for _ in heads][::-1]
        if [worth[0] for worth in worths] != heads:
            self.end = ("stuck",)
            return None
        return [worth[1:] for worth in worths]


def _begin(machine, node, names, _):
    """Begin a node: plan its parts, as far as they are worked out in any case."""
    head = node[0]
    if head == "while":
        machine.plan("turn", node, names, {})
        return
    if head in OTHERS:
        machine.enter(node, names)
        return
    machine.tick()
    if head == "catch":
        machine.plan("guarded", node, names, len(machine.worths))
        machine.plan("begin", node[2], names, None)
        return
    machine.plan("finish", node, names, None)
    parts = kids(node)[:1] if head in LED_BY_FIRST else kids(node)
    for _, part in parts[::-1]:
        machine.plan("begin", part, names, None)


def _finish(machine, node, names, _):
    """End a node whose planned parts have been worked out."""
    action = FINISHES[node[0]]
    action(machine, node, names)


def _turn(machine, node, names, seen):
    """Begin a while's test; if it began so before, and no event came since, none ever comes."""
    state = (len(machine.events), tuple(machine.cells.values()))
    if state in seen:
        machine.end = ("never",)
        return
    seen[state] = True
    machine.tick()
    machine.plan("tested", node, names, seen)
    machine.plan("begin", node[1], names, None)


def _tested(machine, node, names, seen):
    held = machine.taken(["truth"])
    if held == [("yes",)]:
        machine.plan("turned", node, names, seen)
        machine.plan("begin", node[2], names, None)
    elif held is not None:
        machine.worths.append(("number", 0))


def _turned(machine, node, names, seen):
    machine.worths.pop()
    machine.plan("turn", node, names, seen)


def _guarded(machine, node, names, depth):
    """Nothing is left to do: the worth of the first part is that of the catch."""


def _number(machine, node, _):
    machine.worths.append(node)


def _name(machine, node, names):
    while names is not None and names[0] != node[1]:
        names = names[2]
    if names is None:
        machine.end = ("stuck",)
    else:
        machine.worths.append(names[1])


def _let(machine, node, names):
    machine.plan("begin", node[3], (node[1], machine.worths.pop(), names), None)


def _pair(machine, node, _):
    second = machine.worths.pop()
    machine.worths.append(("pair", machine.worths.pop(), second))


def _half(machine, node, _):
    held = machine.taken(["pair"])
    if held is not None:
        machine.worths.append(held[0][0 if node[0] == "first" else 1])


def _plus(machine, node, _):
    held = machine.taken(["number", "number"])
    if held is not None:
        machine.worths.append(("number", (held[0][0] + held[1][0]) % (MOST_NUMBER + 1)))


def _less(machine, node, _):
    held = machine.taken(["number", "number"])
    if held is not None:
        machine.worths.append(("truth", "yes" if held[0][0] < held[1][0] else "no"))


def _if(machine, node, names):
    held = machine.taken(["truth"])
    if held is not None:
        machine.plan("begin", node[2] if held[0][0] == "yes" else node[3], names, None)


def _then(machine, node, _):
    last = machine.worths.pop()
    machine.worths.pop()
    machine.worths.append(last)


def _left(machine, place, _, seen):
    machine.leave(place, seen, ("ends", machine.worths[-1]))


def _get(machine, node, _):
    machine.note(("reads", node[1]))
    machine.worths.append(("number", machine.cells[node[1]]))


def _set(machine, node, _):
    held = machine.taken(["number"])
    if held is not None:
        machine.note(("sets", node[1]))
        machine.cells[node[1]] = held[0][0]
        machine.worths.append(("number", held[0][0]))


def _show(machine, node, _):
    machine.tell(("shown", machine.worths[-1]))


def _ask(machine, node, _):
    if machine.asked == len(machine.inputs):
        machine.end = ("waits",)
        return
    given = machine.inputs[machine.asked]
    machine.asked += 1
    machine.tell(("asked", given))
    machine.worths.append(("number", given))


def _fail(machine, node, _):
    """Go back to the nearest catch of this fault in whose first part it comes."""
    while machine.todo:
        word, around, names, more = machine.todo.pop()
        if word == "left":
            machine.leave(around, more, ("fails", node[1]))
        elif word == "guarded" and around[1] == node[1]:
            machine.worths = machine.worths[:more]
            machine.plan("begin", around[3], names, None)
            return
    machine.end = ("fails", node[1])


ACTIONS = {
    "begin": _begin, "finish": _finish, "turn": _turn, "tested": _tested, "turned": _turned, "guarded": _guarded,
    "left": _left,
}
FINISHES = {
    "number": _number, "truth": _number, "name": _name, "let": _let, "pair": _pair, "first": _half,
    "second": _half, "plus": _plus, "less": _less, "if": _if, "then": _then, "get": _get, "set": _set,
    "show": _show, "ask": _ask, "fail": _fail,
}
