"""Merging of rows that are alike: what comes behind them is the same, but for the numbers of things.

Of rows that are alike, the things that come in events or ends can be exchanged in one way only: each is
met first at some place. So each row gets a list of its things as they are met, looking further and
further ahead, and rows are parted as long as what they tell by such lists is unlike.
"""

from formrules.errors import TooMany

MOST_ROWS = 200


def ons_of(what):
    """List the ons of a row, those for outcomes ahead of catches."""
    if what[0] == "does":
        return list(what[4]) + [on for _, on in what[5]]
    if what[0] in ("shows", "asks"):
        return [what[-1]]
    return []


def terms_of(what):
    """List the terms that a row tells, None among them for what is not let."""
    if what[0] == "does":
        return list(what[2]) + list(what[3])
    if what[0] == "shows":
        return [what[1]]
    if what[0] == "ends":
        return [what[1]] + list(what[2])
    return list(what[2]) if what[0] == "fails" else []


def needless_catch(rows, kinds, fault, on):
    """Tell whether a catch only passes its fault on, with the new things of the cells."""
    what = rows[on[0]][1]
    if what[0] != "fails" or what[1] != fault:
        return False
    new = [("thing", len(kinds) + at) for at in range(len(what[2]))]
    return [("thing", on[1][term[1]]) if term[0] == "thing" else term for term in what[2]] == new


class Reader:
    """Tells a row by words; its things are numbered as they are met, behind those that were met before."""

    def __init__(self, order):
        self.order = {thing: k for k, thing in enumerate(order)}
        self.words = []

    def read(self, kinds, what, told):
        """Read a row; told gives for a row what is known of it: a number, and a list of its things in order."""
        self.words.extend([what[0]] + ([what[1]] if what[0] in ("does", "fails") else []))
        for term in terms_of(what):
            self._read_term(term)
        if what[0] == "does":
            self.words.extend([len(what[4])] + [fault for fault, _ in what[5]])
        for row, things in ons_of(what):
            number, order = told(row)
            self.words.extend([number, len(order)])
            for at in order:
                thing = things[at]
                self.words.append(self._number(thing) if thing < len(kinds) else len(kinds) - thing - 1)
        for thing in self.order:
            self.words.append(kinds[thing])
        return tuple(self.words), list(self.order)

    def _number(self, thing):
        return self.order.setdefault(thing, len(self.order))

    def _read_term(self, term):
        if term is None or term[0] == "pair":
            self.words.append(None if term is None else "pair")
            for half in [] if term is None else term[1:]:
                self._read_term(half)
        elif term[0] == "thing":
            self.words.extend(["thing", self._number(term[1])])
        else:
            self.words.extend(term)


class Merger:
    """Parts rows into lots that are alike; rows lists (kinds, what)."""

    def __init__(self, rows):
        self.rows = [(kinds, _without_needless(rows, kinds, what)) for kinds, what in rows]
        self.lots = [0 for _ in rows]
        self.members = [list(range(len(rows)))]
        self.orders = [[] for _ in rows]
        self.words = [() for _ in rows]
        self.ahead = [{} for _ in rows]
        for at, (_, what) in enumerate(self.rows):
            for row, _ in ons_of(what):
                self.ahead[row][at] = True
        due = list(range(len(rows)))
        while due:
            due = self._part(due)

    def told(self, at):
        """Give what is known of a row: the number of its lot, and its things in order."""
        return self.lots[at], self.orders[at]

    def _part(self, due):
        """Read some rows anew, part the lots in which they become unlike, and list the rows to be read then."""
        found = [self._read(at) for at in due]
        changed = {}
        touched = {}
        for at, (words, order) in zip(due, found):
            if order != self.orders[at]:
                changed[at] = True
            if words != self.words[at]:
                touched[self.lots[at]] = True
            self.words[at], self.orders[at] = words, order
        for lot in touched:
            for at in self._split(lot):
                changed[at] = True
        again = {at: True for one in changed for at in self.ahead[one]}
        return sorted(again)

    def _read(self, at):
        return Reader(self.orders[at]).read(self.rows[at][0], self.rows[at][1], self.told)

    def _split(self, lot):
        """Part a lot by the words of its rows, and list the rows that come to another one."""
        groups = {}
        for at in self.members[lot]:
            groups.setdefault(self.words[at], []).append(at)
        parts = sorted(list(groups.values()), key=len)
        self.members[lot] = parts.pop()
        moved = []
        for part in parts:
            for at in part:
                self.lots[at] = len(self.members)
            self.members.append(part)
            moved.extend(part)
        return moved

    def least(self, start, things):
        """Give the least sheet that plays as the rows from one on, which holds these first things of cells.

        TooMany(200).
        """
        kept = sorted(self.orders[start], key=lambda thing: things[thing])
        lots = {self.lots[start]: (0, self._places(start, kept))}
        todo = [(start, kept)]
        made = []
        while len(made) < len(todo):
            at, order = todo[len(made)]
            made.append(self._made(at, order, lots, todo))
        return tuple([things[thing] for thing in kept]), tuple(made)

    def _places(self, at, order):
        """Give for a list of the things of a row where each is among those as they are met."""
        return [self.orders[at].index(thing) for thing in order]

    def _made(self, at, order, lots, todo):
        """Give a row of the least sheet that holds the things of a row in this order.

        lots tells for each lot that was met its number and its places; todo gets rows of new ones.
        """
        kinds, what = self.rows[at]
        number = {thing: k for k, thing in enumerate(order)}
        ons = []
        for row, things in ons_of(what):
            known = [number.get(thing, len(order) + thing - len(kinds)) for thing in things]
            if self.lots[row] not in lots:
                kept = sorted(self.orders[row], key=lambda thing: known[thing])
                lots[self.lots[row]] = (len(lots), self._places(row, kept))
                todo.append((row, kept))
                if len(todo) > MOST_ROWS:
                    raise TooMany(MOST_ROWS)
            new, places = lots[self.lots[row]]
            ons.append((new, tuple([known[self.orders[row][place]] for place in places])))
        return tuple([kinds[thing] for thing in order]), _with_ons(what, number, ons)


def _without_needless(rows, kinds, what):
    """Give what comes at a row without catches that only pass their fault on."""
    if what[0] != "does":
        return what
    catches = [(fault, on) for fault, on in what[5] if not needless_catch(rows, kinds, fault, on)]
    return what[:5] + (tuple(catches),)


def _with_ons(what, number, ons):
    """Give what comes at a row with its things numbered by a dict, and with other ons, in order."""
    if what[0] == "does":
        many = len(what[4])
        seen = tuple([_numbered(term, number) for term in what[2]])
        held = tuple([_numbered(term, number) for term in what[3]])
        catches = [(fault, on) for (fault, _), on in zip(what[5], ons[many:])]
        return ("does", what[1], seen, held, tuple(ons[:many]), tuple(catches))
    if what[0] == "shows":
        return ("shows", _numbered(what[1], number), ons[0])
    if what[0] == "asks":
        return ("asks", ons[0])
    if what[0] == "never":
        return what
    held = tuple([_numbered(term, number) for term in what[2]])
    return (what[0], _numbered(what[1], number) if what[0] == "ends" else what[1], held)


def _numbered(term, number):
    """Give a term with its things numbered by a dict."""
    if term is None:
        return None
    if term[0] == "pair":
        return ("pair", _numbered(term[1], number), _numbered(term[2], number))
    return ("thing", number[term[1]]) if term[0] == "thing" else term


def need_few(rows):
    """TooMany(200) if more rows than that are surely apart; None stands for rows that nobody has looked into."""
    known = [(0, []) for _ in rows]
    counts = [0, 0, 0, 0]
    while counts[-1] > counts[-4] or len(counts) == 4:
        words = {}
        fresh = []
        for at, one in enumerate(rows):
            fresh.append(None)
            if one is not None and all([known[row] is not None for row, _ in ons_of(one[1])]):
                key, order = Reader(known[at][1]).read(one[0], one[1], lambda row: known[row])
                fresh[-1] = (words.setdefault((known[at][0],) + key, len(words)), order)
        if len(words) > MOST_ROWS:
            raise TooMany(MOST_ROWS)
        known = fresh
        counts.append(len(words))
