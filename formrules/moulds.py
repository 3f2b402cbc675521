"""Finding the moulds of expressions and placed templates, those of parts of own uses first."""

from formrules.casts import Cast, Casting, Mould
from formrules.shapes import nodes_of, use_parts
from formrules.walks import Walk, seen_in


class CastWalk(Walk):
    """A walk that takes the parts of own uses as casts of moulds, by their paths; None for no mould."""

    def __init__(self, schemes, moulds):
        Walk.__init__(self, schemes)
        self.moulds = moulds
        self.casts = []

    def in_use(self, task):
        """Gather what an own use asks, each seat of a part taking one cast."""
        for _, path, _, names, kind in super().in_use(task):
            if self.moulds[path] is None:
                self.lost.append(path)
            else:
                self._take(self.moulds[path], path, names, kind)
        return []

    def _take(self, mould, path, names, kind):
        cast = Cast(mould, len(self.casts), None, None)
        self.casts.append(cast)
        for x in sorted(mould.free, key=lambda x: str(x)):
            self.tie(path, self.kind_of_name(x, names), cast.copied(self.nodes, mould.free[x]))
        self.tie(path, kind, cast.copied(self.nodes, mould.whole))
        self.seats.append((None, [(at, its) for at, its in seen_in(names) if mould.shows(at)], cast.index))


def mould_of(schemes, e):
    """Give the mould of an expression or placed template, None if its kinds cannot be."""
    moulds, checked = {}, {}
    for path, node in nodes_of(e)[::-1]:
        told = schemes[(node[1], len(node[4]))] if node[0] == "own" else None
        if told is not None:
            seated = {place: True for place, _, _ in told[1]}
            for place, steps, part in use_parts(node):
                if place in seated:
                    made = _mould(CastWalk(schemes, moulds), checked, part, path + steps)
                    if made is not None:
                        made.solution.settle()
                    moulds[path + steps] = made
    return _mould(CastWalk(schemes, moulds), checked, e, ())


def _mould(walk, checked, e, path):
    top = walk.go(e, path, {})
    equal = [(one, other) for _, one, other in walk.equal]
    solution = Casting(walk.nodes.shapes, walk.casts, checked, equal)
    if walk.lost or not solution.sound:
        return None
    pieces = []
    for place, seen, at in walk.seats:
        roots = [(one, solution.root(its)) for one, its in seen]
        pieces.append((place, roots, at if place is None else solution.root(at)))
    free = {x: solution.root(walk.free[x]) for x in walk.free}
    return Mould(path, solution, solution.root(top), free, pieces)
