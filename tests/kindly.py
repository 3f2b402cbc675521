"""Small books whose forms have plain schemes: templates are made kind by kind, by a seed."""

import random

from formrules.books import is_book
from formrules.sights import sights

NUMBER, TRUTH, OTHER = ("number",), ("truth",), ("other",)
PAIR = ("pair", NUMBER, TRUTH)
KINDS = [NUMBER, TRUTH, TRUTH, OTHER, PAIR]
FAULTS = ["v", "w"]


class Kindly:
    """Makes books, templates and core expressions out of a seed, each node of a kind that is wanted."""

    def __init__(self, seed, cells=("c",), kinds=KINDS, rows=True):
        self.random = random.Random(seed)
        self.cells = cells
        self.kinds = kinds
        self.rows = rows
        self.forms = {}

    def pick(self, things):
        return self.random.choice(list(things))

    def book(self, forms, depth=3):
        """Make a book of so many forms."""
        book = ("book", self.cells, ())
        for letter in "abcdefgh"[:forms]:
            book = self.with_form(book, "form" + letter, depth)
        return book

    def with_form(self, book, name, depth, like=None):
        """Give the book with one form more, with places and kinds like those of another form if this is told."""
        while True:
            if like is None:
                binds, parts = self.random.randint(0, 2), self.random.randint(1, 3)
                row = (self.random.randint(0, 1), 1) if self.rows and self.random.random() < 0.3 else None
                binding = {("bind", j): self.pick(self.kinds) for j in range(binds)}
                leaves = {("part", i): self.pick(self.kinds) for i in range(parts)}
                if row:
                    binding.update({("row", j): self.pick(self.kinds) for j in range(row[0])})
                    leaves.update({("here", i): self.pick(self.kinds) for i in range(row[1])})
                whole = self.pick(self.kinds)
            else:
                binds, parts, row, binding, leaves, whole = self.forms[like]
            plain = {place: kind for place, kind in binding.items() if place[0] == "bind"}
            rules = [self.rule(book, whole, depth, plain, {p: k for p, k in leaves.items() if p[0] == "part"})]
            if row:
                rules.append(self.rule(book, whole, depth, binding, {**leaves, ("rest",): whole}))
            form = ("form", name, binds, parts, row, tuple(rules))
            longer = ("book", book[1], book[2] + (form,))
            if is_book(longer):
                self.forms[name] = binds, parts, row, binding, leaves, whole
                return longer

    def rule(self, book, kind, depth, binding, leaves):
        self.told = book
        self.binding = {**binding, "t": None, "u": None}
        self.leaves = leaves
        return self.node(kind, self.random.randint(1, depth), {})

    def core(self, kind, depth, names, cells):
        """Make a core expression of a kind, in which names of kinds may be read."""
        self.told = ("book", cells, ())
        self.binding = {"r": None}
        self.leaves = {}
        return self.node(kind, depth, dict(names))

    def node(self, kind, depth, names):
        roll = self.random.random()
        if depth == 0 or roll < 0.1:
            return self.leaf(kind, names)
        if self.told[2] and roll < 0.3:
            use = self.use(kind, depth, names)
            if use is not None:
                return use

        def part(kind, more=()):
            return self.node(kind, depth - 1, {**names, **dict(more)})

        heads = ["let", "let", "then", "if", "show", "catch"]
        heads += ["set", "while"] if kind == NUMBER else ["pair"] if kind[0] == "pair" else ["half"]
        head = self.pick(heads)
        if head == "let":
            x = self.pick(self.binding)
            of = self.binding[x] or self.pick(self.kinds)
            return ("let", x, part(of), part(kind, [(x, of)]))
        if head == "then":
            return ("then", part(self.pick(self.kinds)), part(kind))
        if head == "if":
            return ("if", part(TRUTH), part(kind), part(kind))
        if head == "show":
            return ("show", part(kind))
        if head == "catch":
            return ("catch", self.pick(FAULTS), part(kind), part(kind))
        if head == "set":
            return ("set", self.pick(self.told[1]), part(NUMBER)) if self.told[1] else part(NUMBER)
        if head == "while":
            return ("while", part(TRUTH), part(self.pick(self.kinds)))
        if head == "pair":
            return ("pair", part(kind[1]), part(kind[2]))
        both = [kind, self.pick(self.kinds)]
        return ("first", part(("pair", *both))) if self.random.random() < 0.5 else ("second", part(("pair", *both[::-1])))

    def leaf(self, kind, names):
        found = [place for place, its in self.leaves.items() if its == kind] * 3
        found += [("name", x) for x, its in names.items() if its == kind] * 2
        if kind == NUMBER:
            found += [("number", self.random.randint(0, 7)), ("ask",)] + [("get", cell) for cell in self.told[1]]
        if kind == TRUTH:
            found += [("truth", "yes"), ("truth", "no")]
        if kind[0] == "pair" and not found:
            return ("pair", self.leaf(kind[1], names), self.leaf(kind[2], names))
        if not found or self.random.random() < 0.08:
            return ("fail", self.pick(FAULTS))
        return self.pick(found)

    def use(self, kind, depth, names):
        """Make an own use of this kind, None if there is none."""
        fitting = [word for word in self.forms if self.forms[word][5] == kind and any(f[1] == word for f in self.told[2])]
        if not fitting:
            return None
        word = self.pick(fitting)
        binds, parts, row, binding, leaves, _ = self.forms[word]
        many = self.random.randint(0, 2) if row else 0
        pool = [x for x in self.binding if isinstance(x, tuple)] + ["p", "q", "r", "s", "z"]
        self.random.shuffle(pool)
        given, kinds = {}, {}
        places = [("bind", j) for j in range(binds)] + [("row", k, j) for k in range(many) for j in range(row[0])]
        for place in places:
            of = binding[place if place[0] == "bind" else ("row", place[2])]
            fit = [x for x in pool if self.binding.get(x) in (None, of)]
            given[place] = fit[0]
            pool.remove(fit[0])
            kinds[fit[0]] = of
        seen = sights(self.told, word, many)

        def part(place):
            of = leaves[place if place[0] == "part" else ("here", place[2])]
            inner = dict(names)
            if seen[place] is not None:
                for at in seen[place][1]:
                    inner.pop(given[at], None)
                for at in seen[place][0]:
                    inner[given[at]] = kinds[given[at]]
            return self.node(of, depth - 1, inner)

        rows = []
        for k in range(many):
            rows.append((tuple(given[("row", k, j)] for j in range(row[0])), tuple(part(("here", k, i)) for i in range(row[1]))))
        return ("own", word, tuple(given[("bind", j)] for j in range(binds)), tuple(part(("part", i)) for i in range(parts)), tuple(rows))
