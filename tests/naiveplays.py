"""Open runs worked out by plain recursion, from the words of the document; nothing is taken from the package."""

import naive

NUMBER = ("number",)


class Stop(Exception):
    """The run has come to its end."""


def outcomes(kind, first=0):
    """List the outcomes of a kind, things being numbered from first on."""
    if kind[0] == "truth":
        return [("truth", "yes"), ("truth", "no")]
    if kind[0] == "pair":
        many = things(kind[1])
        return [("pair", t, u) for t in outcomes(kind[1], first) for u in outcomes(kind[2], first + many)]
    return [("thing", first)]


def things(kind):
    """Count the new things of a kind."""
    return things(kind[1]) + things(kind[2]) if kind[0] == "pair" else int(kind[0] != "truth")


class OpenRun:
    """One open run of a form's use, with answers."""

    def __init__(self, book, name, many, plain, answers, most, patience=400):
        form = [one for one in book[2] if one[1] == name][0]
        self.places, _ = naive.places_of(form, many)
        use = naive.open_use(form, many, lambda place: ("at", place), lambda place: ("leaf", place))
        self.e = naive.Expander(book).outermost(use)
        self.cells = {cell: ("thing", at) for at, cell in enumerate(book[1])}
        self.kinds = dict(plain[2])
        self.next = len(book[1])
        self.answers = list(answers)
        self.most = most
        self.patience = patience
        self.events = []
        # What the things of the run come from, for tests of sources.
        self.sources = [("cell", cell) for cell in book[1]]
        self.done = []

    def showing(self):
        try:
            worth = self.go(self.e, {})
            end = ("ends", worth, self.held())
        except naive.Fault as fault:
            end = ("fails", fault.args[0], self.held())
        except Stop as told:
            end = told.args[0]
        return tuple(self.events), end

    def held(self):
        return tuple(self.cells.values())

    def event(self, event):
        self.patience = 400
        if len(self.events) == self.most:
            raise Stop(("more",))
        self.events.append(event)

    def new(self, source):
        self.next += 1
        self.sources.append(source)
        return ("thing", self.next - 1)

    def does(self, place, names):
        seen = tuple(names.get(("at", at)) for at in self.places)
        self.event(("does", place, seen, self.held()))
        self.done.append((place, seen, self.held()))
        if not self.answers:
            raise Stop(("open",))
        head, what = self.answers.pop(0)
        worth = None
        if head == "ends":
            worth = outcomes(self.kinds[place], self.next)[what]
            for j in range(things(self.kinds[place])):
                self.new(("gave", place, j))
        for cell in self.cells:
            self.cells[cell] = self.new(("left", place, cell))
        if head == "fails":
            raise naive.Fault(what)
        return worth

    def go(self, e, names):
        head = e[0]
        self.patience -= 1
        if self.patience < 0:
            raise Stop(("never",))
        if head == "leaf":
            return self.does(e[1], names)
        if head in ("number", "truth"):
            return e
        if head == "name":
            return names[e[1]]
        if head == "let":
            worth = self.go(e[2], names)
            return self.go(e[3], {**names, e[1]: worth})
        if head == "if":
            return self.go(e[2] if self.go(e[1], names) == ("truth", "yes") else e[3], names)
        if head == "while":
            while self.go(e[1], names) == ("truth", "yes"):
                self.go(e[2], names)
            return ("number", 0)
        if head == "catch":
            try:
                return self.go(e[2], names)
            except naive.Fault as fault:
                if fault.args[0] != e[1]:
                    raise
            return self.go(e[3], names)
        if head == "fail":
            raise naive.Fault(e[1])
        if head == "get":
            return self.cells[e[1]]
        if head == "ask":
            self.event(("asks",))
            return self.new(("asked",))
        worths = [self.go(item, names) for what, item in zip(naive.ARITY[head], e[1:]) if what == "e"]
        if head == "pair":
            return ("pair",) + tuple(worths)
        if head in ("first", "second"):
            return worths[0][1 if head == "first" else 2]
        if head == "set":
            self.cells[e[1]] = worths[0]
        if head == "show":
            self.event(("shows", worths[0]))
        return worths[-1]


def play(book, name, many, plain, answers, most):
    return OpenRun(book, name, many, plain, answers, most).showing()
