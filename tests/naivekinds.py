"""Schemes found slowly and plainly, from the words of the document."""

import naive

from naive import Inference, NUMBER, resolved, unify


class Refused(Exception):
    """The scheme, or one that it needs, is too great."""


def size(kind):
    return 1 + size(kind[1]) + size(kind[2]) if kind[0] == "pair" else 1


class Schemes:
    """Schemes of a book's forms."""

    def __init__(self, book):
        self.forms = {form[1]: form for form in book[2]}
        self.known = {}

    def of(self, name, many):
        if (name, many) not in self.known:
            self.known[(name, many)] = self.found(self.forms[name], many)
        return self.known[(name, many)]

    def found(self, form, many):
        template = form[5][1 if many else 0]
        uses = []

        def look(node):
            if node[0] == "rest":
                uses.append((form[1], many - 1))
            elif node[0] not in ("part", "here"):
                if node[0] == "own":
                    uses.append((node[1], len(node[4])))
                naive.mapped(node, lambda x: x, look)

        look(template)
        for use in uses:
            self.of(*use)
        finder = Finder(self, form, many)
        whole = finder.kind(template, {})
        if not finder.right:
            return None
        full = lambda kind: resolved(kind, finder.filled)
        seats = [(place, [(at, full(kind)) for at, kind in seen], full(kind)) for place, seen, kind in finder.seats]
        return told(least(seats, full(whole)), full(whole))


def kinds_of(seat):
    return [kind for _, kind in seat[1]] + [seat[2]]


def follows(at, seats, whole):
    """Tell whether the seat at an index follows from another one."""
    place, seen, _ = seats[at]
    common = set(naive.unknowns_in(whole))
    for k, seat in enumerate(seats):
        if k != at:
            for kind in kinds_of(seat):
                common.update(naive.unknowns_in(kind))
    for k, other in enumerate(seats):
        if k != at and other[0] == place and [p for p, _ in other[1]] == [p for p, _ in seen]:
            filled = {one: ("any", one) for one in common}
            if all([naive.matched(a, b, filled) for a, b in zip(kinds_of(seats[at]), kinds_of(other))]):
                return True
    return False


def least(seats, whole):
    """Leave out the last seat that follows, as long as there is one."""
    seats = list(seats)
    while True:
        some = [at for at in range(len(seats)) if follows(at, seats, whole)]
        if not some:
            return seats
        del seats[some[-1]]


def told(seats, whole):
    kinds = naive.told_kinds([kind for seat in seats for kind in kinds_of(seat)] + [whole])
    if len(seats) > 100 or max(size(kind) for kind in kinds) > 200:
        raise Refused()
    made = []
    for place, seen, _ in seats:
        names = tuple((at, kinds.pop(0)) for at, _ in seen)
        made.append((place, names, kinds.pop(0)))
    return ("scheme", tuple(made), kinds.pop(0))


class Finder(Inference):
    """Inference in a template, that gathers seats."""

    def __init__(self, schemes, form, many):
        super().__init__()
        self.schemes = schemes
        self.form = form
        self.many = many
        self.seats = []

    def seat(self, place, names):
        kind = self.new()
        seen = []
        for at in sorted(x for x in names if isinstance(x, tuple)):
            seen.append((at, names[at]))
        self.seats.append((place, seen, kind))
        return kind

    def spot(self, x):
        return ("row", 0, x[1]) if x[0] == "row" else x

    def kind(self, e, names):
        if e[0] in ("part", "here"):
            return self.seat(e if e[0] == "part" else ("here", 0, e[1]), names)
        if e[0] == "name":
            return names[self.spot(e[1])]
        if e[0] == "let":
            inner = {**names, self.spot(e[1]): self.kind(e[2], names)}
            return self.kind(e[3], inner)
        if e[0] == "rest":
            return self.use(self.form[1], self.many - 1, self.in_rest, lambda place: None, names)
        if e[0] == "own":
            given = {}
            for j, x in enumerate(e[2]):
                given[("bind", j)] = self.spot(x)
            for k, row in enumerate(e[4]):
                for j, x in enumerate(row[0]):
                    given[("row", k, j)] = self.spot(x)
            at = lambda place: e[3][place[1]] if place[0] == "part" else e[4][place[1]][1][place[2]]
            return self.use(e[1], len(e[4]), lambda place: given[place], at, names)
        return super().kind(e, names)

    def in_rest(self, place):
        return (place[0], place[1] + 1, place[2]) if len(place) == 3 else place

    def use(self, name, many, named, part, names):
        told = self.schemes.of(name, many)
        if told is None:
            self.right = False
            return self.new()
        fresh = {}

        def new(kind):
            if kind[0] == "any":
                return fresh.setdefault(kind[1], self.new())
            return ("pair", new(kind[1]), new(kind[2])) if kind[0] == "pair" else kind

        for place, seen, kind in told[1]:
            inner = dict(names)
            for at, its in seen:
                inner[named(at)] = new(its)
            e = part(place)
            its = self.seat(self.in_rest(place), inner) if e is None else self.kind(e, inner)
            self.same(its, new(kind))
        return new(told[2])


class Freed(Inference):
    """Inference in an expression in which only nodes at some paths ask for kinds."""

    def __init__(self, schemes, asked):
        super().__init__()
        self.schemes = schemes
        self.asked = asked

    def can_be(self, e):
        self.at(e, (), {})
        return self.right

    def at(self, e, path, names):
        asks = path in self.asked
        if e[0] == "own":
            return self.at_use(e, path, names, asks)
        if e[0] == "name":
            kind = names.get(e[1]) or self.free.setdefault(e[1], self.new())
        elif e[0] == "let":
            its = self.at(e[2], path + (2,), names)
            kind = self.at(e[3], path + (3,), {**names, e[1]: its if asks else self.new()})
        else:
            fields = enumerate(zip(naive.ARITY[e[0]], e[1:]), start=1)
            parts = [self.at(item, path + (at,), names) for at, (what, item) in fields if what == "e"]
            kind = self.made(e[0], parts) if asks else None
        return kind if asks else self.new()

    def at_use(self, use, path, names, asks):
        told = self.schemes.of(use[1], len(use[4]))
        if told is None:
            self.right = self.right and not asks
            return self.new()
        given = {("bind", j): x for j, x in enumerate(use[2])}
        given.update({("row", k, j): x for k, row in enumerate(use[4]) for j, x in enumerate(row[0])})
        fresh = {}

        def new(kind):
            if kind[0] == "any":
                return fresh.setdefault(kind[1], self.new())
            return ("pair", new(kind[1]), new(kind[2])) if kind[0] == "pair" else kind

        for place, seen, kind in told[1]:
            steps = (3, place[1]) if place[0] == "part" else (4, place[1], 1, place[2])
            part = use
            for at in steps:
                part = part[at]
            inner = {**names, **{given[at]: new(its) if asks else self.new() for at, its in seen}}
            its = self.at(part, path + steps, inner)
            if asks:
                self.same(its, new(kind))
        return new(told[2]) if asks else self.new()
