"""Casts: copies of parts whose kinds are copied only as far as something looks into them.

A part of an own use stands once for each seat of its place. Its kinds are found once, as a mould; each seat
has a cast of it. So uses within uses cost no more than their nodes, on however many roads they stand.
"""

from formrules.solving import NUMBER, TRUTH, Solution

# What has a kind of more nodes than these is rather not looked into.
SMALL = 200


class Mould:
    """What the part at a path asks by itself: its solution, and the roots of its kind and of its free names.

    pieces tells its seats, as (place, pairs of name places and roots, root), and its casts, as
    (None, such pairs for what is seen around them, index), in order. seats counts all seats, those
    of casts among them; seated has all roots that stand in kinds of these; hidden has the name places
    around the part that none of them sees, as each sees a nearer one.
    """

    def __init__(self, path, solution, whole, free, pieces):
        self.path = path
        self.solution = solution
        self.whole = whole
        self.free = free
        self.pieces = pieces
        self.seats = 0
        self.seated = {}
        self.hidden = None
        for place, seen, at in pieces:
            self._seat([root for _, root in seen])
            if place is not None:
                self._seat([at])
                self._count(1, [one for one, _ in seen])
            else:
                inner = solution.casts[at].mould
                self._seat([root for _, root in solution.casts[at].seated()])
                self._count(inner.seats, [one for one, _ in seen] + list(inner.hidden or {}))

    def _count(self, seats, hidden):
        self.seats += seats
        if seats:
            self.hidden = {at: True for at in hidden if self.hidden is None or at in self.hidden}

    def _seat(self, roots):
        todo = list(roots)
        while todo:
            at = self.solution.root(todo.pop())
            if at not in self.seated:
                self.seated[at] = True
                todo.extend(self.solution.below(at))

    def shows(self, place):
        """Tell whether a seat sees a name place that stands around the part."""
        return self.hidden is not None and place not in self.hidden


class Cast:
    """One cast of a mould: the nodes that are copied so far, by roots, and the casts within it.

    around is the cast that it is within, or None; at its index in the mould of that one; index that
    among all casts. spread tells whether its seats have been spread out.
    """

    def __init__(self, mould, index, around, at):
        self.mould = mould
        self.index = index
        self.around = around
        self.at = at
        self.spread = False
        self.copies = {}
        self.within = {}

    def copied(self, nodes, root):
        """Give the node that is copied from a root of the mould."""
        if root not in self.copies:
            shape = self.mould.solution.shapes[root]
            plain = shape is None or shape in (NUMBER, TRUTH)
            self.copies[root] = nodes.made(shape if plain else ("copy", self.index, root))
        return self.copies[root]

    def model(self):
        """Give a cast around this one, and the cast of its mould that this one is a copy of.

        It is the outermost one that there is: there most is copied.
        """
        way = [self.at]
        holder = self.around
        found = holder, holder.mould.solution.casts[self.at]
        while holder.around is not None:
            way.append(holder.at)
            holder = holder.around
            model = holder.mould.solution.casts[way[-1]].known_within(way[-2::-1])
            if model is not None:
                found = holder, model
        return found

    def known_within(self, way):
        """Give the cast to which a way leads, from cast to cast, None if nothing of it is copied so far."""
        found = self
        for at in way:
            if found is not None:
                found = found.within.get(at)
        return found

    def way(self):
        """List the indexes that lead from the outermost cast around this one to it; that one's is its own."""
        way = []
        one = self
        while one.around is not None:
            way.append(one.at)
            one = one.around
        return [one.index] + way[::-1]

    def seated(self):
        """List pairs (words, node) for the nodes copied so far that stand in kinds of seats; words tell which."""
        found = [((root,), self.copies[root]) for root in sorted(self.copies) if root in self.mould.seated]
        for at in sorted(self.within):
            found.extend([((-1, at) + words, node) for words, node in self.within[at].seated()])
        return found


class Casting(Solution):
    """A solution with nodes that are copies: what they are is found when they are looked into.

    more has, for a root that is several copies at once, which nobody has looked into, all but its
    shape. checked tells of lots of roots of moulds whether they can be equal. Once it is settled, as
    that of a part's mould is, nothing in it is looked into any more.
    """

    def __init__(self, shapes, casts, checked, equal):
        self.casts = casts
        self.checked = checked
        self.more = {}
        self.clash = False
        self.settled = False
        self.in_common = False
        self.found_below = {}
        self.weights = {}
        Solution.__init__(self, shapes, equal)
        self.sound = self.sound and self._agree()

    def settle(self):
        """Note that nothing is looked into any more, and whether several copies are one here, or in a mould."""
        self.settled = True
        self.in_common = self._may_be_in_common()

    def made(self, shape):
        """Give a new node of a shape."""
        self.shapes.append(shape)
        self.up.append(len(self.up))
        return len(self.up) - 1

    def put_off(self, one, other):
        """Make two roots that are copies of great kinds one that is both; tell whether they were."""
        mine, its = self.shapes[one], self.shapes[other]
        if mine[0] != "copy" or its[0] != "copy" or self._is_small(mine) or self._is_small(its):
            return False
        self.up[one] = other
        self.more[other] = self.more.pop(other, []) + [mine] + self.more.pop(one, [])
        return True

    def _is_small(self, shape):
        return self.casts[shape[1]].mould.solution.weight(shape[2]) <= SMALL

    def weight(self, root):
        """Give the number of nodes of a kind where all is settled, as if all of it were looked into."""
        todo = [root]
        while todo:
            at = todo[-1]
            shape = self.shapes[at]
            halves = [] if shape is None or shape[0] == "copy" else self.below(at)
            due = [one for one in halves if one not in self.weights]
            if at in self.weights or not due:
                if at not in self.weights:
                    self.weights[at] = self._weight_of(shape, halves)
                todo.pop()
            else:
                todo.extend(due)
        return self.weights[root]

    def _weight_of(self, shape, halves):
        if shape is not None and shape[0] == "copy":
            return self.casts[shape[1]].mould.solution.weight(shape[2])
        return 1 + sum([self.weights[one] for one in halves])

    def look_into(self, at):
        """Make a copy that is a root plainer by one step; tell whether it was one."""
        shape = self.shapes[at]
        if shape is None or shape[0] != "copy":
            return False
        others = self.more.pop(at, [])
        cast = self.casts[shape[1]]
        inner = cast.mould.solution.shapes[shape[2]]
        if inner[0] == "copy":
            self.shapes[at] = ("copy", self.cast_within(cast, inner[1]).index, inner[2])
            for _, index, root in cast.mould.solution.more.get(shape[2], []):
                others.append(("copy", self.cast_within(cast, index).index, root))
        else:
            halves = [cast.copied(self, root) for root in cast.mould.solution.below(shape[2])]
            self.shapes[at] = ("pair", halves[0], halves[1])
        for other in others:
            if not self._make_equal(at, self.made(other)):
                self.clash = True
        return True

    def cast_within(self, cast, at):
        """Give the cast, within a cast, of the one that its mould has at an index."""
        inner = cast.mould.solution.casts[at]
        if inner.around is not None:
            return self.cast_within(self.cast_within(cast, inner.around.index), inner.at)
        if at not in cast.within:
            made = Cast(inner.mould, len(self.casts), cast, at)
            self.casts.append(made)
            cast.within[at] = made
            holder, model = made.model()
            for root in sorted(model.copies):
                made.copies[root] = holder.copied(self, holder.mould.solution.root(model.copies[root]))
            for deeper in sorted(model.within):
                self.cast_within(made, deeper)
        return cast.within[at]

    def below(self, at):
        """List the roots of the halves of a pair, or of what is copied so far within a copy."""
        root = self.root(at)
        shape = self.shapes[root]
        if shape is None or shape[0] != "copy":
            return super().below(root)
        if not self.settled or root not in self.found_below:
            found = []
            for _, index, inner in [shape] + self.more.get(root, []):
                found.extend(self._copied_within(self.casts[index], inner))
            self.found_below[root] = found
        return self.found_below[root]

    def _copied_within(self, cast, start):
        """List the roots of what is copied so far of all within a root of a cast's mould."""
        found = []
        seen = {}
        todo = self._deeper(cast, start)
        while todo:
            one, root = todo.pop()
            if (one.index, root) in seen:
                continue
            seen[(one.index, root)] = True
            if root in one.copies:
                found.append(self.root(one.copies[root]))
            else:
                todo.extend(self._deeper(one, root))
        return found

    def _deeper(self, cast, root):
        """List pairs (cast, root) for what is below a root in the mould of a cast, or in a cast within it."""
        solution = cast.mould.solution
        shape = solution.shapes[root]
        found = [(cast, below) for below in solution.below(root)]
        if shape is not None and shape[0] == "copy":
            for _, at, inner in [shape] + solution.more.get(root, []):
                within = cast.known_within(solution.casts[at].way())
                if within is not None:
                    found.extend(self._deeper(within, inner))
        return found

    def opened(self, at, most):
        """Look into all that the kind of a node has; tell whether it is made of at most so many nodes."""
        found = {}
        todo = [at]
        while todo:
            one = self.root(todo.pop())
            while self.look_into(one):
                one = self.root(one)
            if one not in found:
                if len(found) == most:
                    return False
                found[one] = True
                todo.extend(self.below(one))
        return True

    def _agree(self):
        """Tell whether copies that are one can be equal, looking into those of which something is copied."""
        at = 0
        while self._may_be_in_common() and at < len(self.up):
            root = self.root(at)
            if self._is_in_common(root) and self.below(root):
                self.look_into(root)
                at = 0
            else:
                at += 1
        if self.clash or not all([self._can_be_equal(root) for root in list(self.more)]):
            return False
        return at == 0 or self._is_finite()

    def _may_be_in_common(self):
        return bool(self.more) or any([cast.mould.solution.in_common for cast in self.casts])

    def _is_in_common(self, at):
        """Tell whether a root is a copy of which something may stand in several copies at once."""
        shape = self.shapes[at]
        if shape is None or shape[0] != "copy":
            return False
        return at in self.more or self.casts[shape[1]].mould.solution.in_common

    def _can_be_equal(self, at):
        """Tell whether several copies can be equal, nothing of them being copied so far."""
        shapes = [self.shapes[at]] + self.more[at]
        key = tuple(sorted([(self.casts[index].mould.path, root) for _, index, root in shapes]))
        if key not in self.checked:
            casts = [Cast(self.casts[index].mould, k, None, None) for k, (_, index, _) in enumerate(shapes)]
            tried = Casting([NUMBER, TRUTH], casts, self.checked, [])
            self.checked[key] = tried.can_agree([root for _, _, root in shapes])
        return self.checked[key]

    def can_agree(self, roots):
        """Tell whether copies of a root for each cast, in order, can be equal."""
        nodes = [cast.copied(self, root) for cast, root in zip(list(self.casts), roots)]
        for node in nodes:
            while self.look_into(self.root(node)):
                pass
        equal = [self._make_equal(nodes[0], node) for node in nodes[1:]]
        return all(equal) and self._is_finite() and self._agree()

    def common(self):
        """List lists of casts that have something in common that nobody has looked into."""
        return [self._lines(root) for root in sorted(self.more)]

    def _lines(self, root):
        """List for the copies that a root is their casts, and those around these."""
        found = []
        for _, index, _ in [self.shapes[root]] + self.more[root]:
            cast = self.casts[index]
            while cast is not None:
                found.append(cast)
                cast = cast.around
        return found

    def words_in_common(self, groups):
        """List for each group of casts words that tell what these have in common that nobody has looked into."""
        homes = {cast.index: (g, k) for g, casts in enumerate(groups) for k, cast in enumerate(casts)}
        found = [[] for _ in groups]
        for root in sorted(self.more):
            words = {}
            for _, index, inner in [self.shapes[root]] + self.more[root]:
                way = [inner]
                cast = self.casts[index]
                while cast is not None and cast.index not in homes:
                    way.append(cast.at)
                    cast = cast.around
                if cast is not None:
                    g, k = homes[cast.index]
                    words.setdefault(g, []).append((k,) + tuple(way))
            for g in words:
                found[g].append(tuple(sorted(words[g])))
        return [sorted(one) for one in found]

    def look_into_spread(self):
        """Look into all that several copies are at once as far as their casts are spread out."""
        todo = list(self.more)
        while todo:
            at = self.root(todo.pop())
            if at in self.more:
                shapes = [self.shapes[at]] + self.more[at]
                if any([self.casts[index].spread for _, index, _ in shapes]):
                    many = len(self.up)
                    self.look_into(at)
                    todo.extend([at] + list(range(many, len(self.up))))
