"""Forests: trees known by numbers, so that equal ones have one number, however great they are."""

YES = 0
NO = 1


class Forest:
    """Trees by numbers; entries tells them, trees within them being told by their numbers."""

    def __init__(self):
        self.entries = [("yes",), ("no",)]
        self.known = {("yes",): YES, ("no",): NO}
        self.endings = {}
        self.matches = {}

    def entry(self, key):
        """Give the number of a tree whose trees within are told by their numbers."""
        if key not in self.known:
            self.known[key] = len(self.entries)
            self.entries.append(key)
        return self.known[key]

    def put(self, tree):
        """Give the number of a tree."""
        if tree[0] == "does":
            yes = self.put(tree[2])
            return self.entry(("does", tree[1], yes, self.put(tree[3])))
        if tree[0] == "shows":
            return self.entry(("shows", tree[1], self.put(tree[2])))
        return self.entry(tree)

    def tree(self, number):
        """Give the tree of a number."""
        key = self.entries[number]
        if key[0] == "does":
            return ("does", key[1], self.tree(key[2]), self.tree(key[3]))
        return ("shows", key[1], self.tree(key[2])) if key[0] == "shows" else key

    def ended(self, number, yes, no):
        """Give a tree with trees in the place of its yes and of its no."""
        if number in (YES, NO):
            return yes if number == YES else no
        key = (number, yes, no)
        if key not in self.endings:
            self.endings[key] = self._ended(self.entries[number], yes, no)
        return self.endings[key]

    def _ended(self, entry, yes, no):
        if entry[0] == "does":
            behind = self.ended(entry[2], yes, no)
            return self.entry(("does", entry[1], behind, self.ended(entry[3], yes, no)))
        if entry[0] == "shows":
            return self.entry(("shows", entry[1], self.ended(entry[2], yes, no)))
        return self.entry(entry)

    def filled(self, number, parts):
        """Give a tree with trees for what its places do, told by a dict; none of the other places may be done."""
        known = {}
        todo = [number]
        while todo:
            at = todo[-1]
            entry = self.entries[at]
            below = [one for one in self._below(at, parts) if one not in known]
            if below:
                todo.extend(below)
                continue
            todo.pop()
            if entry[0] == "does" and entry[1] in parts:
                yes, no = self.needs(parts[entry[1]])
                known[at] = self.ended(parts[entry[1]], known[entry[2]] if yes else YES, known[entry[3]] if no else NO)
            elif entry[0] == "shows":
                known[at] = self.entry(("shows", entry[1], known[entry[2]]))
            else:
                known[at] = at
        return known[number]

    def _below(self, number, parts):
        """List the trees within one that stand in what comes of it."""
        entry = self.entries[number]
        if entry[0] == "does" and entry[1] in parts:
            yes, no = self.needs(parts[entry[1]])
            return ([entry[2]] if yes else []) + ([entry[3]] if no else [])
        return [entry[2]] if entry[0] == "shows" else []

    def needs(self, number):
        """Tell whether a tree has a yes, and whether it has a no."""
        within = self.within(number)
        return YES in within, NO in within

    def within(self, number):
        """List a tree and all that stand in it."""
        found = {}
        todo = [number]
        while todo:
            at = todo.pop()
            if at not in found:
                found[at] = True
                entry = self.entries[at]
                todo.extend(list(entry[2:]) if entry[0] in ("does", "shows") else [])
        return list(found)

    def match(self, cut, tree):
        """Give the lists of what a tree has in the place of the yes, and of the no, of a cut, or None."""
        key = (cut, tree)
        if key not in self.matches:
            self.matches[key] = self._matched(cut, tree)
        return self.matches[key]

    def _matched(self, cut, tree):
        if cut in (YES, NO):
            return ([tree], []) if cut == YES else ([], [tree])
        mine, its = self.entries[cut], self.entries[tree]
        if mine[0] not in ("does", "shows"):
            return ([], []) if cut == tree else None
        if mine[:2] != its[:2]:
            return None
        yes, no = [], []
        for one, other in zip(mine[2:], its[2:]):
            inner = self.match(one, other)
            if inner is None:
                return None
            yes.extend([at for at in inner[0] if at not in yes])
            no.extend([at for at in inner[1] if at not in no])
        return yes, no

    def is_cut(self, cut, tree):
        """Tell whether a tree is a cut of another one."""
        for one in self.within(tree):
            found = self.match(cut, one)
            if found is not None and len(found[0]) <= 1 and len(found[1]) <= 1:
                return True
        return False
