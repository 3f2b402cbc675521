"""Where brackets must stand: quarrels of nodes, and the texts with the fewest brackets."""

from formrules.errors import BadPaths
from formrules.guards import are_paths, need_expression
from formrules.patterns import grammar_of
from formrules.shapes import FIELDS, kids, nodes_of


def quarrels(book, notation, e):
    """Give the ascending tuple of all quarrels of an expression; BadBook, BadNotation, BadExpression."""
    edges = _edges_for(book, notation, e)
    return tuple(sorted([(edges.paths[above], edges.paths[below]) for above, below in edges.quarrels({})]))


def _edges_for(book, notation, e):
    grammar = grammar_of(book, notation)
    need_expression(book, e)
    return Edges(grammar, e)


def is_settled(book, notation, e, some):
    """Tell whether the words of e with brackets around just some nodes are legal; the errors of quarrels, BadPaths."""
    edges = _edges_for(book, notation, e)
    known = {path: at for at, path in enumerate(edges.paths)}
    if not are_paths(some) or not all([path in known for path in some]):
        raise BadPaths("this is no tuple of paths to nodes")
    if not all([one < other for one, other in zip(some, some[1:])]):
        raise BadPaths("these paths are not ascending")
    return not edges.quarrels({known[path]: True for path in some})


def text_of(book, notation, e):
    """Give the words of an expression with as few brackets as can be; the errors of quarrels."""
    return " ".join(_edges_for(book, notation, e).words())


def words_told(grammar, e):
    """List the words of an expression or template with as few brackets as can be."""
    return Edges(grammar, e).words()


def brackets(book, notation, e):
    """Give the ascending tuple of the paths to the nodes that have brackets in the text; the errors of quarrels."""
    edges = _edges_for(book, notation, e)
    return tuple(sorted([edges.paths[at] for at in edges.bracketed]))


def apart(book, notation, e):
    """Give as many quarrels as brackets, no two of whose ways have a node in common; the errors of quarrels."""
    edges = _edges_for(book, notation, e)
    found = [(edges.paths[edges.above[at]], edges.paths[edges.below_of(at)]) for at in edges.bracketed]
    return tuple(sorted(found))


class Edges:
    """The nodes of an expression in order, by numbers, with what stands at the edges of their patterns.

    above has the node above each; firsts and lasts the part that is the first, the last piece of its pattern,
    None if there is none; bracketed those that have brackets where there are as few as can be.
    """

    def __init__(self, grammar, e):
        self.paths = [path for path, _ in nodes_of(e)]
        self.nodes = [node for _, node in nodes_of(e)]
        self.productions = [grammar.production(node) for node in self.nodes]
        self.parts = [[] for _ in self.nodes]
        self.above = [0 for _ in self.nodes]
        self.firsts = [None for _ in self.nodes]
        self.lasts = [None for _ in self.nodes]
        loose = []
        for at in range(len(self.nodes) - 1, -1, -1):
            self.parts[at] = [loose.pop() for _ in kids(self.nodes[at])]
            loose.append(at)
            self._find_edges(at)
        self.bracketed = self._found()

    def _find_edges(self, at):
        for part in self.parts[at]:
            self.above[part] = at
        production = self.productions[at]
        if production is not None and production.front:
            self.firsts[at] = self.parts[at][production.pieces[0][1]]
        if production is not None and production.back:
            self.lasts[at] = self.parts[at][production.pieces[-1][1]]

    def edges_of(self, at):
        """List the nodes that are the first or the last piece of the pattern of one."""
        return [one for one in (self.firsts[at], self.lasts[at]) if one is not None]

    def quarrels(self, bracketed):
        """List the pairs (above, below) of the quarrels that have none of some nodes with brackets on their way."""
        found = []
        for above in range(len(self.nodes)):
            for start, open_below in ((self.firsts[above], self.lasts), (self.lasts[above], self.firsts)):
                todo = [] if start is None else [start]
                while todo:
                    at = todo.pop()
                    if at not in bracketed:
                        found.extend([] if open_below[at] is None else [(above, at)])
                        todo.extend(self.edges_of(at))
        return found

    def _found(self):
        """Give the dict of the nodes that get brackets, from the innermost ones outwards."""
        found = {}
        front = [one is not None for one in self.firsts]
        back = [one is not None for one in self.lasts]
        for at in range(len(self.nodes) - 1, -1, -1):
            first, last = self.firsts[at], self.lasts[at]
            if first is not None and back[first]:
                found[first] = True
            if last is not None and front[last]:
                found[last] = True
            for one in self.edges_of(at):
                if one not in found:
                    front[at] = front[at] or front[one]
                    back[at] = back[at] or back[one]
        return found

    def below_of(self, at):
        """Give a node at the edge of one with brackets that quarrels with the node above that one."""
        wanted = self.lasts if self.firsts[self.above[at]] == at else self.firsts
        todo = [at]
        while True:
            one = todo.pop()
            if wanted[one] is not None:
                return one
            todo.extend([edge for edge in self.edges_of(one) if edge not in self.bracketed])

    def words(self):
        """List the words, with brackets around just those nodes."""
        found = []
        todo = [0]
        while todo:
            one = todo.pop()
            if isinstance(one, str):
                found.append(one)
            else:
                inner = self._pieces_at(one)
                todo.extend((["("] + inner + [")"] if one in self.bracketed else inner)[::-1])
        return found

    def _pieces_at(self, at):
        """List the words of a node, its parts among them by their numbers."""
        node, production = self.nodes[at], self.productions[at]
        if production is None:
            return _atom_words(node)
        if node[0] != "own":
            fields = FIELDS[node[0]]
            names = [item for item, field in zip(node[1:], fields) if field == "bound"]
            words = [item for item, field in zip(node[1:], fields) if field in ("cell", "fault")]
            return _filled(production.pieces, names, self.parts[at], words)
        found = []
        taken = len(node[3])
        for piece in production.pieces:
            if piece[0] != "rows":
                found.extend(_filled([piece], node[2], self.parts[at], []))
                continue
            for names, parts in node[4]:
                found.extend(_filled(piece[1], names, self.parts[at][taken:taken + len(parts)], []))
                taken += len(parts)
            found.append(piece[2])
        return found


def _filled(pieces, names, parts, words):
    """List the words of pieces with names, numbers of parts, and a cell or fault in their places."""
    found = []
    for piece in pieces:
        if piece[0] == "word":
            found.append(piece[1])
        elif piece[0] == "name":
            found.extend(_name_words(names[piece[1]]))
        elif piece[0] == "part":
            found.append(parts[piece[1]])
        else:
            found.extend(words)
    return found


def _name_words(x):
    """List the words of a name, which in templates may be a place."""
    return [x] if isinstance(x, str) else [x[0], str(x[1])]


def _atom_words(node):
    if node[0] == "name":
        return _name_words(node[1])
    if node[0] in ("number", "truth"):
        return [str(node[1])]
    return [str(one) for one in node]
