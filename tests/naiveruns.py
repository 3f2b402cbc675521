"""Free runs by writing out, from the words of the document; nothing is taken from the package."""

import itertools

import naive

NUMBER, YES, NO = ("number",), ("truth", "yes"), ("truth", "no")
OUTCOMES = ("ends", "fails")


def dims(kind):
    """List the dim worths of a kind, in order."""
    if kind[0] == "truth":
        return [YES, NO]
    if kind[0] == "pair":
        return [("pair", one, other) for one in dims(kind[1]) for other in dims(kind[2])]
    return [kind]


def dimmed(worth):
    if worth[0] == "pair":
        return ("pair", dimmed(worth[1]), dimmed(worth[2]))
    return NUMBER if worth[0] == "number" else worth


def numbered(kind):
    if kind[0] == "pair":
        return ("pair", numbered(kind[1]), numbered(kind[2]))
    return NUMBER if kind[0] == "any" else kind


def faults_in(book):
    """Give the set of the faults that stand in rules of the book."""
    found = set()

    def look(node):
        if node[0] in ("fail", "catch"):
            found.add(node[1])
        if node[0] not in ("part", "here", "rest"):
            naive.mapped(node, lambda x: x, look)

    for form in book[2]:
        for rule in form[5]:
            look(rule)
    return found


def dim_key(dim):
    """Give what orders dim worths: numbers, yes, no, pairs by first, then second, unknowns."""
    head = {NUMBER: 0, YES: 1, NO: 2}.get(dim, 3 if dim[0] == "pair" else 4)
    return (head,) + (dim_key(dim[1]), dim_key(dim[2])) if dim[0] == "pair" else (head,) + dim[1:] if head == 4 else (head,)


def what_key(book, what):
    """Give what orders whats."""
    head = ["ends", "fails", "endless", "reads", "sets", "shows", "asks"].index(what[0])
    if what[0] == "ends":
        return (head, dim_key(what[1]))
    if what[0] == "fails":
        return (head, what[1] is None, what[1] or "")
    return (head, book[1].index(what[1])) if len(what) > 1 else (head,)


def ordered(book, whats):
    return tuple(sorted(set(whats), key=lambda what: what_key(book, what)))


def told(faults, what):
    return ("fails", None) if what[0] == "fails" and what[1] not in faults else what


class Lots:
    """What comes under which lots: sets of frozen sets, all of them rather than the least ones alone."""

    one = frozenset([frozenset()])

    def plus(self, one, other):
        return least(one | other)

    def times(self, one, other):
        return least({a | b for a in one for b in other})


def least(lots):
    return frozenset(lot for lot in lots if not any(other < lot for other in lots))


class Free:
    """Free runs of what is written out: go gives a dict from whats to lots of whatever leaves tell.

    leaf tells for a place and what is seen there exactly such a dict. A node may be ("tagged", tag, node): then
    whats but ends are told with the tag of the node that brought them.
    """

    def __init__(self, leaf=None, tags=False):
        self.leaf = leaf
        self.tags = tags
        self.sums = Lots()

    def add(self, found, what, lots):
        found[what] = self.sums.plus(found[what], lots) if what in found else lots

    def behind(self, found, lots, more):
        for what, its in more.items():
            self.add(found, what, self.sums.times(lots, its))

    def begun(self, result):
        """Part a result into what is no end, and the ends."""
        found = {what: lots for what, lots in result.items() if what[0] != "ends"}
        return found, [(what[1], lots) for what, lots in result.items() if what[0] == "ends"]

    def own(self, what, tag):
        return what + (tag,) if self.tags else what

    def go(self, e, names, tag=None):
        one = self.sums.one
        if e[0] == "tagged":
            return self.go(e[2], names, e[1])
        head = e[0]
        if head == "leaf":
            return self.leaf(e[1], {x[1]: dim for x, dim in names.items() if x[0] == "at"})
        if head in ("number", "truth"):
            return {("ends", dimmed(e)): one}
        if head == "name":
            return {("ends", names[e[1]]): one} if e[1] in names else {}
        if head == "get":
            return {("ends", NUMBER): one, self.own(("reads", e[1]), tag): one}
        if head == "ask":
            return {("ends", NUMBER): one, self.own(("asks",), tag): one}
        if head == "fail":
            return {self.own(("fails", e[1]), tag): one}
        if head == "catch":
            return self.catch(e, names)
        at = [k for k, what in enumerate(naive.ARITY[head], start=1) if what == "e"]
        found, ends = self.begun(self.go(e[at[0]], names))
        for dim, lots in ends:
            if head == "let":
                self.behind(found, lots, self.go(e[3], {**names, e[1]: dim}))
            elif head == "if" and dim in (YES, NO):
                self.behind(found, lots, self.go(e[2 if dim == YES else 3], names))
            elif head == "while" and dim == NO:
                self.add(found, ("ends", NUMBER), lots)
            elif head == "while" and dim == YES:
                body, turned = self.begun(self.go(e[2], names))
                self.behind(found, lots, body)
                for _, more in turned:
                    self.add(found, self.own(("endless",), tag), self.sums.times(lots, more))
            elif head in ("first", "second") and dim[0] == "pair":
                self.add(found, ("ends", dim[1 if head == "first" else 2]), lots)
            elif head == "show" or (head == "set" and dim == NUMBER):
                self.add(found, self.own(("shows",) if head == "show" else ("sets", e[1]), tag), lots)
                self.add(found, ("ends", dim), lots)
            elif head in ("pair", "then", "plus", "less"):
                more, others = self.begun(self.go(e[2], names))
                self.behind(found, lots, more)
                for other, its in others:
                    for made in self.made(head, dim, other):
                        self.add(found, ("ends", made), self.sums.times(lots, its))
        return found

    def made(self, head, one, other):
        if head == "pair":
            return [("pair", one, other)]
        if head == "then":
            return [other]
        if one != NUMBER or other != NUMBER:
            return []
        return [NUMBER] if head == "plus" else [YES, NO]

    def catch(self, e, names):
        found = {}
        for what, lots in self.go(e[2], names).items():
            if what[:2] == ("fails", e[1]):
                self.behind(found, lots, self.go(e[3], names))
            else:
                self.add(found, what, lots)
        return found


def tagged(e, path=()):
    """Give e with each of its nodes tagged by its path."""
    if e[0] == "own":
        rows = tuple((xs, tuple(tagged(part, path + (4, k, 1, i)) for i, part in enumerate(es))) for k, (xs, es) in enumerate(e[4]))
        return ("tagged", path, e[:3] + (tuple(tagged(part, path + (3, i)) for i, part in enumerate(e[3])), rows))
    items = [tagged(item, path + (at,)) if what == "e" else item for at, (what, item) in enumerate(zip(naive.ARITY[e[0]], e[1:]), start=1)]
    return ("tagged", path, (e[0],) + tuple(items))


def written_tagged(book, e):
    """Write out e, each node being tagged with the node of e that it is or came of."""
    expander = naive.Expander(book)

    def go(node, tag):
        if node[0] == "tagged":
            return go(node[2], node[1])
        if node[0] == "own":
            return go(expander.step(node), tag)
        return ("tagged", tag, naive.mapped(node, lambda x: x, lambda part: go(part, tag)))

    return go(tagged(e), None)


def brings(book, names, e):
    found = Free().go(naive.Expander(book).outermost(e), dict(names))
    return ordered(book, [told(faults_in(book), what) for what in found])


def roots(book, names, e, goal):
    faults = faults_in(book)
    found = set()
    for what in Free(tags=True).go(written_tagged(book, e), dict(names)):
        if what[0] == "ends":
            if what == goal:
                found.add(())
        elif told(faults, what[:-1]) == goal:
            found.add(what[-1])
    return tuple(sorted(found))


class Form:
    """A form written out with its places as leaves, in free runs."""

    def __init__(self, book, name, many, plain):
        self.book = book
        form = [form for form in book[2] if form[1] == name][0]
        use = naive.open_use(form, many, lambda place: ("at", place), lambda place: ("leaf", place))
        self.e = naive.Expander(book).outermost(use)
        self.kinds = dict(plain[2])
        self.names = dict(plain[1])
        self.whole = plain[3]
        self.sights = naive.sights(book, name, many)
        self.faults = sorted(faults_in(book))
        self.met = set()

    def whats(self, place):
        found = [("ends", dim) for dim in dims(self.kinds[place])] + [("fails", w) for w in self.faults + [None]]
        found += [("endless",)] + [(head, c) for head in ("reads", "sets") for c in self.book[1]]
        return found + [("shows",), ("asks",)]

    def seen(self, place, exact):
        always = self.sights[place][0] if self.sights[place] else ()
        return tuple((at, exact[at]) for at in always if at in exact)

    def leaf(self, place, exact):
        seen = self.seen(place, exact)
        self.met.add((place, seen))
        return {what: frozenset([frozenset([(place, seen, what)])]) for what in self.whats(place)}

    def all_lots(self):
        """Give the dict from all whats to all least lots."""
        return Free(self.leaf).go(self.e, {})

    def things(self):
        self.all_lots()
        found = [(place, seen, what) for place, seen in self.met for what in self.whats(place)]
        return sorted(found, key=self.key)

    def key(self, thing):
        place, seen, what = thing
        return list(self.kinds).index(place), [dim_key(dim) for _, dim in seen], what_key(self.book, what)

    def under(self, lot, exact=None):
        """Give the set of all whats that come under a lot."""

        def leaf(place, exact):
            seen = self.seen(place, exact)
            return {what: Lots.one for what in self.whats(place) if (place, seen, what) in lot}

        return set(Free(leaf).go(self.e, exact or {}))

    def valuations(self, place):
        """List what can be seen at a place that stands, unknowns taken as numbers."""
        always = self.sights[place][0]
        rows = itertools.product(*[dims(numbered(self.names[at])) for at in always])
        return [tuple(zip(always, row)) for row in rows]


# Bars.

def is_bar(form, name, many, lot, goal, thing):
    """Tell whether rows that are right by their form are a bar."""
    template = [one for one in form.book[2] if one[1] == name][0]
    rule = template[5][1 if many else 0]
    rows = {(path, names): set(whats) for path, names, whats in thing}
    if len(rows) != len(thing) or ((), ()) not in rows or goal in rows[((), ())]:
        return False
    for path, names, whats in thing:
        node = rule
        for at in path:
            if not isinstance(node, tuple) or not 0 <= at < len(node):
                return False
            node = node[at]
        try:
            if not comes(form, template, many, lot, rows, path, dict(names), node) <= set(whats):
                return False
        except KeyError:
            return False
    return True


def name_key(x):
    return (0, x) if isinstance(x, str) else (1 if x[0] == "bind" else 2, x[1])


def comes(form, template, many, lot, rows, path, names, node):
    """Give what a node comes to by the rows of its parts; KeyError where one is missing."""

    def row(steps, more):
        inner = {**names, **more}
        return rows[(path + steps, tuple(sorted(inner.items(), key=lambda one: name_key(one[0]))))]

    def placed(x):
        return ("row", 0, x[1]) if x[0] == "row" else x

    exact = {placed(x): dim for x, dim in names.items() if isinstance(x, tuple)}
    if node[0] in ("part", "here"):
        place = node if node[0] == "part" else ("here", 0, node[1])
        seen = form.seen(place, exact)
        return {what for what in form.whats(place) if (place, seen, what) in lot}
    if node[0] == "rest":
        def later(place):
            return place if place[0] in ("bind", "part") else (place[0], place[1] + 1, place[2])

        use = naive.open_use(template, many - 1, lambda place: ("at", later(place)), lambda place: ("leaf", later(place)))

        def leaf(place, seen):
            there = form.seen(place, seen)
            return {what: Lots.one for what in form.whats(place) if (place, there, what) in lot}

        return set(Free(leaf).go(naive.Expander(form.book).outermost(use), {("at", at): dim for at, dim in exact.items()}))
    if node[0] == "own":
        steps = {("part", i): (3, i) for i in range(len(node[3]))}
        steps.update({("here", k, i): (4, k, 1, i) for k, one in enumerate(node[4]) for i in range(len(one[1]))})
        given = {("bind", j): x for j, x in enumerate(node[2])}
        given.update({("row", k, j): x for k, one in enumerate(node[4]) for j, x in enumerate(one[0])})
        inner = [one for one in form.book[2] if one[1] == node[1]][0]
        use = naive.open_use(inner, len(node[4]), lambda place: ("at", place), lambda place: ("leaf", place))

        def part(place, seen):
            return {what: Lots.one for what in row(steps[place], {given[at]: dim for at, dim in seen.items()})}

        return set(Free(part).go(naive.Expander(form.book).outermost(use), {}))
    return core_comes(node, names, row)


def core_comes(node, names, row):
    """Give what a core node comes to; row tells for a part's steps, and names more, what this comes to."""
    head = node[0]
    at = [k for k, what in enumerate(naive.ARITY[head], start=1) if what == "e"]
    if not at:
        return set(Free().go(node, names))
    first = row((at[0],), {})
    found = {what for what in first if what[0] != "ends"}
    ends = [what[1] for what in first if what[0] == "ends"]
    if head == "catch":
        found = set(first) - {("fails", node[1])}
        return found | row((3,), {}) if ("fails", node[1]) in first else found
    if head == "let":
        return found.union(*[row((3,), {node[1]: dim}) for dim in ends])
    if head == "if":
        return found.union(*[row((2 if dim == YES else 3,), {}) for dim in ends if dim in (YES, NO)])
    if head == "while":
        found |= {("ends", NUMBER)} if NO in ends else set()
        if YES in ends:
            body = row((2,), {})
            found |= {what for what in body if what[0] != "ends"}
            found |= {("endless",)} if any(what[0] == "ends" for what in body) else set()
        return found
    if head in ("first", "second"):
        return found | {("ends", dim[1 if head == "first" else 2]) for dim in ends if dim[0] == "pair"}
    if head in ("show", "set"):
        ends = [dim for dim in ends if head == "show" or dim == NUMBER]
        return found | {("ends", dim) for dim in ends} | ({("shows",) if head == "show" else ("sets", node[1])} if ends else set())
    if ends:
        second = row((2,), {})
        found |= {what for what in second if what[0] != "ends"}
        found |= {("ends", made) for dim in ends for what in second if what[0] == "ends" for made in Free().made(head, dim, what[1])}
    return found


# Real runs.

class Watch(naive.Runner):
    """Runs the rule of an own use with its places as leaves, at which its parts are run."""

    def __init__(self, book, use, inputs):
        super().__init__(book[1], inputs, 10 ** 6, patience=30000)
        self.book = book
        form = [form for form in book[2] if form[1] == use[1]][0]
        many = len(use[4])
        self.given = {("bind", j): x for j, x in enumerate(use[2])}
        self.given.update({("row", k, j): x for k, row in enumerate(use[4]) for j, x in enumerate(row[0])})
        self.parts = {("part", i): part for i, part in enumerate(use[3])}
        self.parts.update({("here", k, i): part for k, row in enumerate(use[4]) for i, part in enumerate(row[1])})
        self.rule = naive.Expander(book).outermost(naive.open_use(form, many, self.given.get, lambda place: ("leaf", place)))
        self.sights = naive.sights(book, use[1], many)
        self.faults = faults_in(book)
        self.inside = 0
        self.own = 0
        # How many nodes of its own each doing of a part has come to.
        self.inner = []
        self.doings = {}
        self.items = set()

    def watched(self):
        """Give (end, own, doings), the end None if patience ended first."""
        _, end, _ = self.showing(self.rule)
        return end, self.own, self.doings

    def count(self):
        super().count()
        if self.inside:
            self.inner[-1] += 1
        else:
            self.own += 1

    def go(self, e, names):
        if e[0] == "leaf":
            return self.does(e[1], {x: worth for x, worth in names.items() if isinstance(x, str)})
        if e[0] == "get":
            self.items.add(("reads", e[1]))
        worth = super().go(e, names)
        if e[0] in ("set", "show", "ask"):
            self.items.add({"set": ("sets",) + e[1:2], "show": ("shows",), "ask": ("asks",)}[e[0]])
        return worth

    def does(self, place, names):
        seen = tuple((at, dimmed(names[self.given[at]])) for at in self.sights[place][0])
        self.inside += 1
        self.inner.append(0)
        try:
            worth = self.go(naive.Expander(self.book).outermost(self.parts[place]), names)
            what = ("ends", dimmed(worth))
            return worth
        except naive.Fault as fault:
            what = told(self.faults, ("fails", fault.args[0]))
            raise
        except naive.End:
            what = None
            raise
        finally:
            self.inside -= 1
            if what is not None:
                self.doings[(place, seen, what)] = self.doings.get((place, seen, what), 0) + 1


def is_way(form, lot, goal, thing):
    """Tell whether a pair (use, inputs) of a form, whose parts are core expressions, is a way."""
    use, inputs = thing
    watch = Watch(form.book, use, inputs)
    for place, part in watch.parts.items():
        if form.sights[place] is None:
            continue
        for seen in form.valuations(place):
            there = {numbered_what(what) for p, s, what in lot if p == place and tuple((at, numbered(dim)) for at, dim in s) == seen}
            if not any(what[0] in OUTCOMES or what == ("endless",) for what in there):
                there.add(("endless",))
            coming = Free().go(part, {watch.given[at]: dim for at, dim in seen})
            if any(told(watch.faults, what) not in there | {("asks",)} for what in coming):
                return False
    end, _, _ = watch.watched()
    if goal[0] == "ends":
        return goal[1] in dims(form.whole) and end is not None and end[0] == "ends" and dimmed(end[1]) == numbered(goal[1])
    if goal[0] == "fails":
        return end is not None and end[0] == "fails" and told(watch.faults, end) == goal
    return goal in watch.items


def numbered_what(what):
    return ("ends", numbered(what[1])) if what[0] == "ends" else what
