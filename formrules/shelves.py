"""A shelf holds the forms of a book, with the rule that is at work for each number of rows."""

from formrules.shapes import kids, nodes_of, own_uses, assembled


class Shelf:
    """The forms of a book, in order; a pair (name, many) tells a form and a number of rows."""

    def __init__(self, forms):
        self.forms = {}
        self.order = {}
        self.rules = {}
        self.withins = {}
        for form in forms:
            self.take(form)

    def take(self, form):
        """Put one form more behind the others."""
        self.order[form[1]] = len(self.order)
        self.forms[form[1]] = form

    def rule(self, pair):
        """Give the template at work, its places told as those of the use.

        ("row", i) and ("here", i) become ("row", 0, i) and ("here", 0, i), and ("rest",) an own
        use of the form on the later rows: it is one in all that regards sights, sizes and kinds.
        """
        if pair not in self.rules:
            self.rules[pair] = _placed(self.forms[pair[0]], pair[1])
        return self.rules[pair]

    def within(self, pair):
        """List the pairs of the own uses in the template at work, rest among them."""
        if pair not in self.withins:
            self.withins[pair] = uses_in(self.rule(pair))
        return self.withins[pair]

    def needed(self, pairs):
        """List these pairs and all within them, each behind those within it."""
        found = {}
        todo = list(pairs)
        while todo:
            pair = todo.pop()
            if pair not in found:
                found[pair] = True
                todo.extend(self.within(pair))
        ranked = sorted([(self.order[name], many, name) for name, many in found])
        return [(name, many) for _, many, name in ranked]

    def part_places(self, pair):
        """List all part places of a form with so many rows, ascending as tuples."""
        form = self.forms[pair[0]]
        heres = [("here", k, i) for k in range(pair[1]) for i in range(form[4][1])]
        return heres + [("part", i) for i in range(form[3])]

    def placed_parts(self, pair):
        """List all part places of a form with so many rows in their order, parts ahead of rows."""
        return sorted(self.part_places(pair), key=place_rank)

    def open_use(self, pair):
        """Give the own use of a form with so many rows with its places as names and parts."""
        return _open_use(self.forms[pair[0]], 0, pair[1])

    def name_places(self, pair):
        """List all name places of a form with so many rows, in their order, which is that of tuples."""
        form = self.forms[pair[0]]
        binds = [("bind", j) for j in range(form[2])]
        return binds + [("row", k, j) for k in range(pair[1]) for j in range(form[4][0])]


def place_rank(place):
    """Give what places are to be sorted by: those of rows come behind the others."""
    return (len(place), place[1:])


def uses_in(e):
    """List the pairs (name, many) of all own uses in an expression or placed template."""
    return [(use[1], len(use[4])) for use in own_uses(e)]


def _placed(form, many):
    """Give the template of a form for so many rows with its places told as those of the use."""
    if many == 0:
        return form[5][0]
    nodes = []
    for _, node in nodes_of(form[5][1]):
        if node[0] == "rest":
            use = _open_use(form, 1, many)
            nodes.append(use)
            nodes.extend([part for _, part in kids(use)])
        else:
            nodes.append(("here", 0, node[1]) if node[0] == "here" else node)
    return assembled(nodes, {("row", j): ("row", 0, j) for j in range(form[4][0])}, {})


def _open_use(form, first, many):
    """Give the own use of a form with its places as names and parts, its rows being those from first on."""
    names = tuple([("bind", j) for j in range(form[2])])
    parts = tuple([("part", i) for i in range(form[3])])
    rows = [(_indexed("row", k, form[4][0]), _indexed("here", k, form[4][1])) for k in range(first, many)]
    return ("own", form[1], names, parts, tuple(rows))


def _indexed(head, k, many):
    return tuple([(head, k, i) for i in range(many)])
