"""Blocks: the seats of a template where they are more than can be listed one by one.

A block has seats, and casts of parts with seats of their own. Where there are few seats all are listed.
Otherwise a cast is spread out only if no cast ahead of it is just like it. Of one that is, each seat
whose unknowns stand in no other seat follows from the same seat of the other cast, which stands ahead
of it; so just the other ones, which are tied to one another, are taken once more. Casts that have
something in common that nobody has looked into go together, as groups.
"""

from formrules.errors import TooMany
from formrules.kindtables import MOST_IN_KIND, MOST_SEATS, KindReader, KindTable
from formrules.seats import Seats

FEW = 2000
# More seats than these, of which none goes away by itself, are never as few as a scheme may have.
GREAT = 4000


class Entry:
    """A seat, with the node of its kind, or a cast, which has no place; seen lists what its seats see.

    at tells where it stands among all; block is what a cast is spread out to, or, with renamed, that of
    the cast that it is just like; renamed tells what becomes of the unknowns of that one, for the casts
    of one group together.
    """

    def __init__(self, place, seen, thing):
        self.place = place
        self.seen = seen
        self.thing = thing
        self.at = ()
        self.block = None
        self.renamed = None


class Block:
    """The entries of a cast in order; left and tied will have the seats that are left, and those tied to others.

    at tells where it stands among all, ahead of those with greater tuples. counts tells for each
    unknown in how many entries it stands, around has those of other groups.
    """

    def __init__(self, at, entries):
        self.at = at
        self.entries = entries
        self.left = []
        self.tied = []
        self.counts = {}
        self.around = []


class Blocks:
    """The seats of a mould, listed as far as they must be."""

    def __init__(self, mould):
        self.solution = mould.solution
        self.table = KindTable()
        self.reader = KindReader(self.solution, self.table)
        self.everything = mould.seats <= FEW
        self.visible = {root: True for root in self._leaves([mould.whole])}
        self.whole = self.reader.read(mould.whole)
        self.top = self._block((), [self._entry(place, seen, at) for place, seen, at in mould.pieces])
        self.blocks = [self.top]
        self.waves = []
        self.totals = {}

    def _block(self, at, entries):
        for k, entry in enumerate(entries):
            entry.at = at + (k,)
        return Block(at, entries)

    def _entry(self, place, seen, at):
        return Entry(place, seen, self.solution.casts[at] if place is None else at)

    def least(self):
        """List the seats that are left in the end, over the table."""
        fresh = self.blocks
        while fresh:
            fresh = self._spread(fresh)
        self._look_into_all()
        if not self.everything:
            self.totals = self._tally([entry for block in self.blocks for entry in block.entries])
            for groups in self.waves[::-1]:
                for group in groups:
                    self._reduce(group)
        return Seats(self.table, self._gathered(self.top), [self.whole], "all").least()

    def _spread(self, blocks):
        """Spread out the casts of blocks, of groups just alike the first one, and list the blocks that come."""
        casts = [entry for block in blocks for entry in block.entries if entry.place is None]
        if self.everything:
            groups = [[entry] for entry in casts]
            keys = list(range(len(groups)))
        else:
            self._look_into_all()
            groups = self._grouped(casts)
            keys = self._keys_of(groups)
        known, fresh, wave = {}, [], []
        for key, group in zip(keys, groups):
            if key in known and all([block.at < entry.at for entry, block in zip(group, known[key])]):
                renamed = {}
                for entry, block in zip(group, known[key]):
                    entry.block, entry.renamed = block, renamed
            else:
                for entry in group:
                    entry.block = self._block(entry.at, self._pieces_of(entry))
                wave.append([entry.block for entry in group])
                known.setdefault(key, wave[-1])
                fresh.extend(wave[-1])
        fresh = sorted(fresh, key=lambda block: block.at)
        self.waves.append(wave)
        self.blocks.extend(fresh)
        if sum([len(block.entries) for block in fresh]) > GREAT and not self.everything:
            raise TooMany(MOST_SEATS)
        return fresh

    def _pieces_of(self, entry):
        """List the entries of a cast that is spread out."""
        cast = entry.thing
        cast.spread = True
        entries = []
        for place, seen, at in cast.mould.pieces:
            both = {one: its for one, its in entry.seen}
            both.update({one: cast.copied(self.solution, root) for one, root in seen})
            if place is not None:
                pairs = [(one, both[one]) for one in sorted(both)]
                entries.append(Entry(place, pairs, cast.copied(self.solution, at)))
            else:
                inner = self.solution.cast_within(cast, at)
                pairs = [(one, both[one]) for one in sorted(both) if inner.mould.shows(one)]
                if inner.mould.seats:
                    entries.append(Entry(None, pairs, inner))
        return entries

    def _look_into_all(self):
        """Look into all that stands in kinds of seats, and into what casts have in common that are spread out."""
        many = -1
        while many != len(self.solution.up):
            many = len(self.solution.up)
            self.solution.look_into_spread()
            self._tally([entry for block in self.blocks for entry in block.entries])

    def _tally(self, entries):
        """Count for each unknown in how many of these entries it stands, those that are spread out aside."""
        counts = {}
        for entry in entries:
            if entry.block is None or entry.renamed is not None:
                for root in self._borne(entry):
                    counts[root] = counts.get(root, 0) + 1
        return counts

    def _borne(self, entry):
        """List the unknowns in the kinds of an entry."""
        kinds = [entry.thing] if entry.place is not None else [node for _, node in entry.thing.seated()]
        return self._leaves([its for _, its in entry.seen] + kinds)

    def _leaves(self, nodes):
        """List the unknowns in the kinds of nodes, as they are met.

        TooMany(100) for a kind of too many nodes: if its seat is left out, then for one as great.
        """
        for node in nodes:
            if not self.solution.opened(node, MOST_IN_KIND):
                raise TooMany(MOST_SEATS)
        found = {}
        todo = list(nodes)[::-1]
        while todo:
            at = self.solution.root(todo.pop())
            if at not in found:
                found[at] = True
                todo.extend(self.solution.below(at)[::-1])
        return [at for at in found if self.solution.shapes[at] is None]

    def _grouped(self, casts):
        """List groups of casts, those together that have in common what nobody has looked into."""
        owners = {entry.thing.index: at for at, entry in enumerate(casts)}
        group_of = {at: [at] for at in owners.values()}
        for members in self.solution.common():
            ours = [owners[cast.index] for cast in members if cast.index in owners]
            for at in ours[1:]:
                if group_of[at][0] != group_of[ours[0]][0]:
                    both = sorted(group_of[at] + group_of[ours[0]])
                    for one in both:
                        group_of[one] = both
        return [[casts[at] for at in group_of[first]] for first in sorted(group_of) if group_of[first][0] == first]

    def _keys_of(self, groups):
        """Tell for each group what it has in common with groups that are just like it."""
        counts = self._tally([entry for block in self.blocks for entry in block.entries])
        common = self.solution.words_in_common([[entry.thing for entry in group] for group in groups])
        keys = []
        for group, inside in zip(groups, common):
            words = list(inside)
            own = self._tally(group)
            fast = [root for root in own if own[root] < counts[root] or root in self.visible]
            labels = {root: ("around", root) for root in fast}
            for entry in group:
                words.append(entry.thing.mould.path)
                for at, node in entry.seen + entry.thing.seated():
                    words.append(at)
                    words.extend(self._words_of(node, labels))
            keys.append(tuple(words))
        return keys

    def _words_of(self, node, labels):
        """List the shapes within the kind of a node; labels has words for unknowns, and gets the new ones."""
        words = []
        todo = [node]
        while todo:
            at = self.solution.root(todo.pop())
            shape = self.solution.shapes[at]
            if shape is None:
                labels.setdefault(at, ("own", len(labels)))
                words.append(labels[at])
            else:
                words.append(shape[0])
                todo.extend(self.solution.below(at)[::-1])
        return words

    def _reduce(self, group):
        """Find the seats of a group's blocks that are left, and those of them that are tied to one another."""
        together = {}
        for block in group:
            self._count(block)
            for root in block.counts:
                together[root] = together.get(root, 0) + block.counts[root]
        around = self._fast(together)
        gathered = [self._gathered(block) for block in group]
        shared = self._shared([[at for seat in seats for at in self._unknowns(seat)] for seats in gathered])
        for block, seats in zip(group, gathered):
            block.around = around
            block.left = Seats(self.table, seats, self._fast(block.counts) + shared, "sure").least()
        self._leave_out(group, around)
        self._tie(group)

    def _leave_out(self, group, around):
        """Leave out the seats of a group's blocks that follow from one ahead of them."""
        homes = [(seat, block) for block in group for seat in block.left]
        left = Seats(self.table, [seat for seat, _ in homes], around, "none").places()
        for block in group:
            block.left = []
        for at in left:
            homes[at][1].left.append(homes[at][0])

    def _unknowns(self, seat):
        return self.table.unknowns([kind for _, kind in seat[1]] + [seat[2]])

    def _shared(self, lists):
        """List what stands in more than one of these lists."""
        homes = {}
        for k, one in enumerate(lists):
            for at in one:
                homes.setdefault(at, {})[k] = True
        return [at for at in homes if len(homes[at]) > 1]

    def _tie(self, group):
        """Find the seats of a group's blocks that have an unknown in common, but for those around them."""
        around = {at: True for at in group[0].around}
        left = [self._unknowns(seat) for block in group for seat in block.left]
        shared = {at: True for at in self._shared(left) if at not in around}
        for block in group:
            block.tied = [seat for seat in block.left if any([at in shared for at in self._unknowns(seat)])]

    def _count(self, block):
        block.counts = self._tally(block.entries)
        for entry in block.entries:
            if entry.block is not None and entry.renamed is None:
                for root in entry.block.counts:
                    block.counts[root] = block.counts.get(root, 0) + entry.block.counts[root]

    def _fast(self, counts):
        """List the indexes of the unknowns that stand elsewhere, too."""
        fast = [root for root in counts if counts[root] < self.totals[root] or root in self.visible]
        return [self.reader.read(root) for root in fast]

    def _gathered(self, block):
        """List the seats of a block, in order, over the table."""
        found = []
        for entry in block.entries:
            if entry.place is not None:
                self._leaves([its for _, its in entry.seen] + [entry.thing])
                seen = tuple([(at, self.reader.read(its)) for at, its in entry.seen])
                found.append((entry.place, seen, self.reader.read(entry.thing)))
            elif entry.renamed is not None:
                found.extend(self._once_more(entry))
            else:
                found.extend(self._gathered(entry.block) if self.everything else entry.block.left)
            if len(found) > GREAT and not self.everything:
                raise TooMany(MOST_SEATS)
        return found

    def _once_more(self, entry):
        """List the tied seats of a block, with new unknowns in the place of its own."""
        made = entry.renamed
        made.update({at: at for at in entry.block.around})
        return [(place, tuple([(at, self._renewed(its, made)) for at, its in seen]), self._renewed(kind, made))
                for place, seen, kind in entry.block.tied]

    def _renewed(self, kind, made):
        """Give a kind with other unknowns; made tells what kinds become, and gets the new ones."""
        for at in sorted(self.table.within([kind])):
            key = self.table.entries[at]
            if at not in made and key[0] == "pair":
                made[at] = self.table.entry(("pair", made[key[1]], made[key[2]]))
            elif at not in made:
                made[at] = self.table.entry(("any", self.reader.label())) if key[0] == "any" else at
        return made[kind]
