"""Small books and expressions, made by a seed."""

import random

from formrules.books import is_book

NAMES = ["x", "y", "z", "t"]


class Maker:
    """Makes books, expressions and templates out of a seed."""

    def __init__(self, seed, cells=("c",), heads=None):
        self.random = random.Random(seed)
        self.cells = cells
        self.heads = heads or HEADS

    def pick(self, things):
        return self.random.choice(list(things))

    def book(self, forms):
        """Make a book of so many forms."""
        book = ("book", self.cells, ())
        while len(book[2]) < forms:
            form = self.form("form" + "abcd"[len(book[2])], book)
            longer = ("book", self.cells, book[2] + (form,))
            if is_book(longer):
                book = longer
        return book

    def form(self, name, book):
        binds, parts = self.random.randint(0, 2), self.random.randint(1, 3)
        row = (self.random.randint(0, 1), self.random.randint(1, 2)) if self.random.random() < 0.4 else None
        self.leaves = [("part", i) for i in range(parts)] * 2
        self.binding = [("bind", j) for j in range(binds)] * 2 + ["t", "x"]
        rules = [self.node(self.random.randint(2, 4), book, [], True)]
        if row is not None:
            self.leaves += [("here", i) for i in range(row[1])] * 2 + [("rest",)] * 2
            self.binding += [("row", j) for j in range(row[0])] * 3
            rules.append(self.node(self.random.randint(2, 4), book, [], True))
        return ("form", name, binds, parts, row, tuple(rules))

    def expression(self, book, depth, names=()):
        """Make an expression of a book, with these names around it."""
        self.binding = NAMES
        self.leaves = None
        return self.node(depth, book, list(names), False)

    def node(self, depth, book, names, template):
        roll = self.random.random()
        if depth == 0 or roll < 0.12:
            return self.atom(names, template)
        if book[2] and roll < 0.45:
            return self.use(depth, book, names, template)
        head = self.pick(self.heads if template else self.heads + ["plus", "less"])

        def part(more=()):
            return self.node(depth - 1, book, names + list(more), template)

        if head == "let":
            x = self.pick(self.binding)
            return ("let", x, part(), part([x]))
        if head == "set":
            return ("set", self.pick(self.cells), part()) if self.cells else part()
        if head == "catch":
            return ("catch", self.pick(["v", "w"]), part(), part())
        return (head,) + tuple(part() for _ in range(ARITIES[head]))

    def atom(self, names, template):
        if template and self.random.random() < 0.6:
            return self.pick(self.leaves)
        if names and self.random.random() < 0.8:
            return ("name", self.pick(names))
        atoms = [("number", self.random.randint(0, 7)), ("truth", self.pick(["yes", "no"])), ("ask",)]
        atoms.append(("fail", self.pick(["v", "w"])))
        if self.cells:
            atoms.append(("get", self.pick(self.cells)))
        if not template:
            atoms.append(("name", self.pick(NAMES)))
        return self.pick(atoms)

    def use(self, depth, book, names, template):
        form = self.pick(book[2])
        many = self.random.randint(0, 2) if form[4] else 0
        needed = form[2] + many * (form[4][0] if form[4] else 0)
        pool = list(dict.fromkeys(list(self.binding) + ["u", "v", "p", "q"]))
        self.random.shuffle(pool)
        given = pool[:needed]
        # Names of the use are read within its parts, so that sights matter.
        inner = names + [x for x in given if template or self.random.random() < 0.8]
        if template and self.random.random() < 0.5:
            inner = names
        parts = tuple(self.node(depth - 1, book, inner, template) for _ in range(form[3]))
        rows = []
        at = form[2]
        for _ in range(many):
            below = tuple(self.node(depth - 1, book, inner, template) for _ in range(form[4][1]))
            rows.append((tuple(given[at:at + form[4][0]]), below))
            at += form[4][0]
        return ("own", form[1], tuple(given[:form[2]]), parts, tuple(rows))


HEADS = ["let", "let", "let", "then", "then", "if", "pair", "first", "second", "show", "while", "set", "catch"]
# Heads that ask little of kinds.
KINDLY = ["let", "let", "let", "then", "then", "pair", "show", "first"]
ARITIES = {"then": 2, "if": 3, "pair": 2, "first": 1, "second": 1, "show": 1, "while": 2, "plus": 2, "less": 2}
