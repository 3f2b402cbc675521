"""Whats: what free runs can come to, by the cells and the faults of a book."""

from formrules.dims import dim_rank, dims_of, is_dim
from formrules.shapes import nodes_of
from formrules.terms import headed

# The heads of whats, in their order.
HEADS = ("ends", "fails", "endless", "reads", "sets", "shows", "asks")
OUTCOMES = ("ends", "fails")
# The heads of whats that have no more than a head.
BARE = ("endless", "shows", "asks")


def faults_of(book):
    """List the faults that stand in the rules of a book, ascending."""
    found = {}
    for form in book[2]:
        for rule in form[5]:
            found.update({node[1]: True for _, node in nodes_of(rule) if node[0] in ("fail", "catch")})
    return sorted(found)


class Whats:
    """Judges and orders the whats of a book."""

    def __init__(self, book):
        self.cells = book[1]
        self.faults = faults_of(book)

    def lets(self, thing):
        """Tell whether any value is a what by its form."""
        head = headed(thing)
        if head not in HEADS or len(thing) != (1 if head in BARE else 2):
            return False
        if head == "ends":
            return is_dim(thing[1])
        if head == "fails":
            return thing[1] is None or (isinstance(thing[1], str) and thing[1] in self.faults)
        return head in BARE or (isinstance(thing[1], str) and thing[1] in self.cells)

    def rank(self, what):
        """Give what whats are to be sorted by."""
        head = what[0]
        first = HEADS.index(head)
        if head == "ends":
            return (first,) + dim_rank(what[1])
        if head == "fails":
            return (first, 1, "") if what[1] is None else (first, 0, what[1])
        return (first,) if head in BARE else (first, self.cells.index(what[1]))

    def told(self, what):
        """Give a what with None for a fault that stands in no rule of the book."""
        return ("fails", None) if what[0] == "fails" and what[1] not in self.faults else what

    def ordered(self, whats):
        """Give the tuple of these whats in order, each once."""
        ranked = {self.rank(what): what for what in whats}
        return tuple([ranked[rank] for rank in sorted(ranked)])

    def of_kind(self, kind):
        """List all whats of a place of a kind, in order."""
        found = [("ends", dim) for dim in dims_of(kind)]
        found.extend([("fails", fault) for fault in self.faults + [None]])
        found.append(("endless",))
        found.extend([(head, cell) for head in ("reads", "sets") for cell in self.cells])
        return found + [("shows",), ("asks",)]
