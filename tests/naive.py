"""Slow and plain ways to find what the package finds, by writing everything out.

Nothing here is taken from the package, so that tests hold one against the other.
"""

ARITY = {
    "number": "f", "truth": "f", "name": "x", "let": "xee", "pair": "ee", "first": "e", "second": "e",
    "plus": "ee", "less": "ee", "if": "eee", "while": "ee", "then": "ee", "get": "f", "set": "fe",
    "show": "e", "ask": "", "fail": "f", "catch": "fee",
}
LEAVES = ("part", "here", "leaf")


def mapped(node, name, part):
    """Give a node with its names and parts mapped."""
    if node[0] == "own":
        names, parts = tuple(map(name, node[2])), tuple(map(part, node[3]))
        rows = tuple((tuple(map(name, xs)), tuple(map(part, es))) for xs, es in node[4])
        return ("own", node[1], names, parts, rows)
    how = {"x": name, "e": part, "f": lambda item: item}
    return (node[0],) + tuple(how[kind](item) for kind, item in zip(ARITY[node[0]], node[1:]))


class TooLong(Exception):
    """What is written out is too great for a plain way."""


class Expander:
    """Writes out with objects ("fresh", n) as fresh names."""

    def __init__(self, book, patience=20000):
        self.forms = {form[1]: form for form in book[2]}
        self.count = 0
        self.patience = patience

    def step(self, use):
        self.patience -= 1
        if self.patience < 0:
            raise TooLong()
        _, form, names, parts, rows = use
        template = self.forms[form][5][1 if rows else 0]
        fresh = {}

        def name(x):
            if isinstance(x, tuple) and x[0] == "bind":
                return names[x[1]]
            if isinstance(x, tuple) and x[0] == "row":
                return rows[0][0][x[1]]
            if x not in fresh:
                self.count += 1
                fresh[x] = ("fresh", self.count)
            return fresh[x]

        def part(node):
            if node[0] == "part":
                return parts[node[1]]
            if node[0] == "here":
                return rows[0][1][node[1]]
            if node[0] == "rest":
                return ("own", form, names, parts, rows[1:])
            return mapped(node, name, part)

        return part(template)

    def outermost(self, e):
        """Write out, outer uses first."""
        while e[0] == "own":
            e = self.step(e)
        return e if e[0] == "leaf" else mapped(e, lambda x: x, self.outermost)

    def innermost(self, e):
        """Write out, inner uses first; leaves stay."""
        if e[0] == "leaf":
            return e
        e = mapped(e, lambda x: x, self.innermost)
        return self.innermost(self.step(e)) if e[0] == "own" else e


def places_of(form, many):
    """Give the lists of name places and of part places."""
    row = form[4] or (0, 0)
    names = [("bind", j) for j in range(form[2])] + [("row", k, j) for k in range(many) for j in range(row[0])]
    parts = [("here", k, i) for k in range(many) for i in range(row[1])] + [("part", i) for i in range(form[3])]
    return names, parts


def open_use(form, many, name, part):
    """Give an own use whose names and parts come of functions of their places."""
    row = form[4] or (0, 0)
    rows = tuple(
        (tuple(name(("row", k, j)) for j in range(row[0])), tuple(part(("here", k, i)) for i in range(row[1])))
        for k in range(many)
    )
    names = tuple(name(("bind", j)) for j in range(form[2]))
    return ("own", form[1], names, tuple(part(("part", i)) for i in range(form[3])), rows)


def sights(book, name, many):
    """Give what sights should tell."""
    form = [form for form in book[2] if form[1] == name][0]
    found = {place: None for place in sorted(places_of(form, many)[1])}
    use = open_use(form, many, lambda place: ("at", place), lambda place: ("leaf", place))

    def look(e, seen):
        if e[0] == "leaf":
            if found[e[1]] is None:
                found[e[1]] = (set(seen), set(seen))
            else:
                found[e[1]] = (found[e[1]][0] & set(seen), found[e[1]][1] | set(seen))
        elif e[0] == "let":
            look(e[2], seen)
            look(e[3], seen + [e[1][1]] if e[1][0] == "at" else seen)
        else:
            mapped(e, lambda x: x, lambda part: look(part, seen))

    look(Expander(book).outermost(use), [])
    return {at: both and tuple(tuple(sorted(one)) for one in both) for at, both in found.items()}


def reads_well(book, template, form):
    """Tell whether all reads of a template of a form behind the book are let, in every copy."""

    def part(node):
        if node[0] in ("part", "here", "rest"):
            return ("leaf", node)
        return mapped(node, lambda x: ("own", x), part)

    good = []

    def look(e, seen):
        if e[0] == "name":
            good.append(e[1] in seen)
        elif e[0] == "let":
            look(e[2], seen)
            look(e[3], seen + [e[1]])
        elif e[0] != "leaf":
            mapped(e, lambda x: x, lambda one: look(one, seen))

    look(Expander(book).outermost(part(template)), [])
    return all(good)


def marked(e, path=()):
    """Give e with each name x exchanged for (x, path to it)."""
    if e[0] == "own":
        rows = tuple(
            (
                tuple((x, path + (4, k, 0, j)) for j, x in enumerate(row[0])),
                tuple(marked(part, path + (4, k, 1, i)) for i, part in enumerate(row[1])),
            )
            for k, row in enumerate(e[4])
        )
        names = tuple((x, path + (2, j)) for j, x in enumerate(e[2]))
        return ("own", e[1], names, tuple(marked(part, path + (3, i)) for i, part in enumerate(e[3])), rows)
    items = [e[0]]
    for at, (kind, item) in enumerate(zip(ARITY[e[0]], e[1:]), start=1):
        items.append((item, path + (at,)) if kind == "x" else marked(item, path + (at,)) if kind == "e" else item)
    return tuple(items)


def binders(book, e):
    """Give what binders should tell."""
    found = {}

    def reads(node):
        if node[0] == "name":
            found[node[1][1]] = set()
        mapped(node, lambda x: x, reads)

    def look(node, lets):
        if node[0] == "name":
            x, spot = node[1]
            if spot not in found:
                return  # a read of a template
            ways = [binder for y, binder in lets if y == x]
            found[spot].add(ways[-1] if ways else None)
        elif node[0] == "let":
            look(node[2], lets)
            look(node[3], lets + [node[1]])
        else:
            mapped(node, lambda x: x, lambda part: look(part, lets))

    reads(marked(e))
    look(Expander(book).outermost(marked(e)), [])
    told = {}
    for spot in sorted(found):
        told[spot] = tuple(sorted(found[spot] - {None})) + ((None,) if None in found[spot] else ())
    return told


def numbered(e):
    """Give a core expression with its lets' names numbered, so that alike ones are equal."""
    count = [0]

    def go(node, names):
        if node[0] == "name":
            return ("name", names.get(node[1], ("free", node[1])))
        if node[0] == "let":
            first = go(node[2], names)
            count[0] += 1
            number = count[0]
            return ("let", number, first, go(node[3], {**names, node[1]: number}))
        return mapped(node, lambda x: x, lambda part: go(part, names))

    return go(e, {})


# Kinds: unknowns are ("any", n), filled by a dict.

def resolved(kind, filled):
    """Give a kind with all its unknowns filled."""
    while kind[0] == "any" and kind[1] in filled:
        kind = filled[kind[1]]
    if kind[0] == "pair":
        return ("pair", resolved(kind[1], filled), resolved(kind[2], filled))
    return kind


def unknowns_in(kind):
    """List the unknowns of a kind as they are met."""
    if kind[0] == "any":
        return [kind[1]]
    return unknowns_in(kind[1]) + unknowns_in(kind[2]) if kind[0] == "pair" else []


def unify(one, other, filled):
    """Make two kinds equal; tell whether this can be."""
    one, other = resolved(one, filled), resolved(other, filled)
    if one == other:
        return True
    if one[0] == "any" or other[0] == "any":
        if one[0] != "any":
            one, other = other, one
        if one[1] in unknowns_in(other):
            return False
        filled[one[1]] = other
        return True
    if one[0] == other[0] == "pair":
        return unify(one[1], other[1], filled) and unify(one[2], other[2], filled)
    return False


NUMBER, TRUTH = ("number",), ("truth",)


class Inference:
    """Finds the kind of a core expression with leaves, by plain filling."""

    def __init__(self):
        self.filled = {}
        self.count = 0
        self.free = {}
        self.right = True

    def new(self):
        self.count += 1
        return ("any", ("new", self.count))

    def same(self, one, other):
        self.right = unify(one, other, self.filled) and self.right

    def kind(self, e, names):
        head = e[0]
        if head == "name":
            if e[1] in names:
                return names[e[1]]
            return self.free.setdefault(e[1], self.new())
        if head == "let":
            inner = {**names, e[1]: self.kind(e[2], names)}
            return self.kind(e[3], inner)
        parts = [self.kind(item, names) for what, item in zip(ARITY[head], e[1:]) if what == "e"]
        return self.made(head, parts)

    def made(self, head, parts):
        new = self.new()
        told = {
            "number": (NUMBER, []), "truth": (TRUTH, []), "ask": (NUMBER, []), "get": (NUMBER, []),
            "fail": (new, []), "pair": (("pair",) + tuple(parts), []),
            "first": (new, [("pair", new, self.new())]), "second": (new, [("pair", self.new(), new)]),
            "plus": (NUMBER, [NUMBER, NUMBER]), "less": (TRUTH, [NUMBER, NUMBER]), "if": (new, [TRUTH, new, new]),
            "while": (NUMBER, [TRUTH]), "then": (parts[-1] if parts else new, []), "set": (NUMBER, [NUMBER]),
            "show": (new, [new]), "catch": (new, [new, new]),
        }
        kind, wanted = told[head]
        for one, other in zip(parts, wanted):
            self.same(one, other)
        return kind


def renumbered(kinds):
    """Give kinds with their unknowns numbered as they are met."""
    order = {}
    for kind in kinds:
        for one in unknowns_in(kind):
            order.setdefault(one, len(order))
    return [resolved(kind, {one: ("any", ("#", n)) for one, n in order.items()}) for kind in kinds]


def plain_numbers(kind):
    """Exchange the numbers of renumbered for plain ones."""
    if kind[0] == "any":
        return ("any", kind[1][1])
    return ("pair", plain_numbers(kind[1]), plain_numbers(kind[2])) if kind[0] == "pair" else kind


def told_kinds(kinds):
    """Give kinds with unknowns 0, 1 and so on, as they are met."""
    return [plain_numbers(kind) for kind in renumbered(kinds)]


def signature(e):
    """Give the weakest signature of a core expression, None without one."""
    inference = Inference()
    whole = inference.kind(e, {})
    if not inference.right:
        return None
    names = sorted(inference.free)
    kinds = told_kinds([resolved(inference.free[x], inference.filled) for x in names] + [resolved(whole, inference.filled)])
    return tuple(zip(names, kinds)), kinds[-1]


def has_signature(e, names, kind):
    """Tell whether a core expression has this signature, whose unknowns nobody fills."""
    weakest = signature(e)
    told = dict(names)
    if weakest is None or any(x not in told for x, _ in weakest[0]):
        return False
    filled = {}
    pairs = [(its, told[x]) for x, its in weakest[0]] + [(weakest[1], kind)]
    return all([matched(its, wanted, filled) for its, wanted in pairs])


def matched(kind, wanted, filled):
    """Tell whether filling unknowns of kind makes it wanted."""
    if kind[0] == "any":
        return filled.setdefault(kind[1], wanted) == wanted
    if kind[0] == "pair" and wanted[0] == "pair":
        return matched(kind[1], wanted[1], filled) and matched(kind[2], wanted[2], filled)
    return kind == wanted


# Running.

class Fault(Exception):
    """A fault that has come."""


class End(Exception):
    """The run has ended, stuck or waiting or with too many events, or after too many steps."""


class Runner:
    """Works out a core expression by plain recursion."""

    def __init__(self, cells, inputs, most, patience=3000):
        self.cells = dict.fromkeys(cells, 0)
        self.inputs = list(inputs)
        self.most = most
        self.patience = patience
        self.steps = 0
        self.events = []

    def showing(self, e):
        """Give (events, end, steps); the end None if patience ended first."""
        try:
            end = ("ends", self.go(e, {}))
        except Fault as fault:
            end = ("fails", fault.args[0])
        except End as told:
            end = told.args[0]
        return tuple(self.events), end, self.steps

    def count(self):
        self.steps += 1
        if self.steps > self.patience:
            raise End(None)

    def event(self, event):
        if len(self.events) == self.most:
            raise End(("more",))
        self.events.append(event)

    def held(self, worth, head):
        if worth[0] != head:
            raise End(("stuck",))
        return worth[1] if head != "pair" else worth[1:]

    def go(self, e, names):
        head = e[0]
        if head == "while":
            while True:
                self.count()
                if self.held(self.go(e[1], names), "truth") == "no":
                    return ("number", 0)
                self.go(e[2], names)
        self.count()
        if head in ("number", "truth"):
            return e
        if head == "name":
            if e[1] not in names:
                raise End(("stuck",))
            return names[e[1]]
        if head == "let":
            worth = self.go(e[2], names)
            return self.go(e[3], {**names, e[1]: worth})
        if head == "if":
            return self.go(e[2] if self.held(self.go(e[1], names), "truth") == "yes" else e[3], names)
        if head == "catch":
            try:
                return self.go(e[2], names)
            except Fault as fault:
                if fault.args[0] != e[1]:
                    raise
            return self.go(e[3], names)
        if head == "fail":
            raise Fault(e[1])
        if head == "get":
            return ("number", self.cells[e[1]])
        if head == "ask":
            if not self.inputs:
                raise End(("waits",))
            self.event(("asked", self.inputs[0]))
            return ("number", self.inputs.pop(0))
        worths = [self.go(item, names) for what, item in zip(ARITY[head], e[1:]) if what == "e"]
        return self.made(head, e, worths)

    def made(self, head, e, worths):
        if head == "pair":
            return ("pair",) + tuple(worths)
        if head in ("first", "second"):
            return self.held(worths[0], "pair")[0 if head == "first" else 1]
        if head in ("plus", "less"):
            one, other = [self.held(worth, "number") for worth in worths]
            return ("number", (one + other) % 8) if head == "plus" else ("truth", "yes" if one < other else "no")
        if head == "set":
            self.cells[e[1]] = self.held(worths[0], "number")
        if head == "show":
            self.event(("shown", worths[0]))
        return worths[-1]
