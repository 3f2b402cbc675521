"""Two plays held against one another: what comes first that is not alike."""

from formrules.exploring import Explorer
from formrules.merging import terms_of
from formrules.places import outcomes_from, things_of
from formrules.scripts import written_script

FREEDOMS = ("varies", "fails", "sets")


class Pairing:
    """Pairs of rows of two explorers, with what their things have in common.

    A pair is (row, row, same): same tells for each thing of the second row which thing of the first
    row it is, None for none of them.
    """

    def __init__(self, one, other):
        self.one = one
        self.other = other
        self.pairs = []
        self.known = {}
        self.behind = {}

    def pair(self, mine, its):
        """Give the number of the pair behind two ons; the same thing has the same number in both."""
        place = {thing: at for at, thing in enumerate(mine[1])}
        key = (mine[0], its[0], tuple([place.get(thing) for thing in its[1]]))
        if key not in self.known:
            self.known[key] = len(self.pairs)
            self.pairs.append(key)
        return self.known[key]

    def first_unlike(self, start):
        """Give the least way from a pair to one where what comes is unlike, None if all is alike.

        A way is a list of pairs (answer, number of a pair), the answer being the one that leads there:
        the shortest way, and of these the one with the least answers.
        """
        levels = [[start]]
        seen = {start: True}
        while levels[-1] and all([self.alike(at) for at in levels[-1]]):
            level = []
            for at in levels[-1]:
                for _, target in self.targets(at):
                    if target not in seen:
                        seen[target] = True
                        level.append(target)
            levels.append(level)
        if not levels[-1]:
            return None
        leading = [{at: True for at in levels[-1] if not self.alike(at)}]
        for level in levels[-2::-1]:
            leading.append({at: True for at in level if any([one in leading[-1] for _, one in self.targets(at)])})
        way = [(None, start)]
        for led in leading[-2::-1]:
            way.append([(answer, at) for answer, at in self.targets(way[-1][1]) if at in led][0])
        return way

    def alike(self, at):
        """Tell whether what comes at a pair is alike on both sides."""
        one, other, same = self.pairs[at]
        mine, its = self.one.row(one)[1], self.other.row(other)[1]
        if mine[0] != its[0] or (mine[0] in ("does", "fails") and mine[1] != its[1]):
            return False
        return terms_of(mine) == [_told_by(term, same) for term in terms_of(its)]

    def targets(self, at):
        """List pairs (answer, number of the pair behind it) for all answers to what comes at a pair.

        The answer is None where nothing is answered. Faults that neither side catches end both alike.
        """
        if at not in self.behind:
            self.behind[at] = self._targets(at)
        return self.behind[at]

    def _targets(self, at):
        one, other, _ = self.pairs[at]
        mine, its = self.one.row(one)[1], self.other.row(other)[1]
        answers = [None] if mine[0] in ("shows", "asks") else []
        if mine[0] == "does":
            faults = sorted({fault: True for fault, _ in mine[5] + its[5]})
            answers = [("ends", k) for k in range(len(mine[4]))] + [("fails", fault) for fault in faults]
        return [(answer, self._behind(at, self.ons(at, answer))) for answer in answers]

    def ons(self, at, answer):
        """Give the ons of both sides behind an answer to what comes at a pair."""
        one, other, _ = self.pairs[at]
        mine, its = self.one.row(one)[1], self.other.row(other)[1]
        if answer is None:
            return mine[-1], its[-1]
        if answer[0] == "ends":
            return mine[4][answer[1]], its[4][answer[1]]
        return self.one.failing(one, answer[1]), self.other.failing(other, answer[1])

    def _behind(self, at, ons):
        """Give the number of the pair behind the ons of both sides."""
        one, other, same = self.pairs[at]
        mine, its = ons
        first, second = len(self.one.row(one)[0]), len(self.other.row(other)[0])
        things = []
        for thing in its[1]:
            if thing >= second:
                things.append(first + thing - second)
            else:
                things.append(-1 - thing if same[thing] is None else same[thing])
        return self.pair(mine, (its[0], things))


def _told_by(term, same):
    """Give a term of the second side as the first side tells it; a thing that this has not stays unlike."""
    if term is None:
        return None
    if term[0] == "pair":
        return ("pair", _told_by(term[1], same), _told_by(term[2], same))
    return ("thing", same[term[1]]) if term[0] == "thing" else term


class Plays:
    """The plays of two forms by a plain scheme, what places may do being told by a dict; None: all.

    It tells for each part place a list of freedoms. A place that does not vary comes to the same each
    time, and does nothing; what it comes to is told at the start.
    """

    def __init__(self, shelf, cells, pairs, told, allowed):
        kinds = dict(told[2])
        allowed = {place: FREEDOMS for place in kinds} if allowed is None else allowed
        self.cells = cells
        self.settled = [(place, kinds[place]) for place in kinds if "varies" not in allowed[place]]
        bound = {place: [word for word in FREEDOMS if word not in allowed[place]] for place in kinds}
        places = [place for place, _ in self.settled]
        both = [Explorer(written_script(shelf, pair, places), cells, kinds, bound) for pair in pairs]
        self.pairing = Pairing(both[0], both[1])

    def first_unlike(self):
        """Give a pair (indexes of outcomes of settled places, least way) to what is unlike, or None."""
        found = None
        for ks in self.starts():
            ons = self.ons(ks)
            way = self.pairing.first_unlike(self.pairing.pair(ons[0], ons[1]))
            if way is not None and (found is None or len(way) < len(found[1])):
                found = ks, way
        return found

    def starts(self):
        """List the tuples of indexes of outcomes to which the settled places can come."""
        found = [()]
        for _, kind in self.settled:
            found = [ks + (k,) for ks in found for k in range(len(outcomes_from(kind, 0)))]
        return found

    def ons(self, ks):
        """Give the ons of both sides at the start, settled places coming to these outcomes."""
        says, kinds = {}, []
        for k, (place, kind) in zip(ks, self.settled):
            says[place] = outcomes_from(kind, len(self.cells) + len(kinds))[k]
            kinds.extend(things_of(kind))
        return self.pairing.one.start(says, kinds), self.pairing.other.start(says, kinds)

    def scripts(self):
        """Give the scripts of both forms."""
        return self.pairing.one.script, self.pairing.other.script
