"""Spots: where the names of an expression stand."""

from formrules.guards import shelf_for
from formrules.shapes import nodes_of, use_names


def spots(book, e):
    """Give the pair (binders, reads) of the paths to names; BadBook, BadExpression."""
    shelf_for(book, e)
    return binders_in(e), reads_in(e)


def binders_in(e):
    """Give the ascending tuple of the paths to names that are bound in e."""
    found = []
    for path, node in nodes_of(e):
        if node[0] == "let":
            found.append(path + (1,))
        elif node[0] == "own":
            found.extend([path + steps for _, steps, _ in use_names(node)])
    return tuple(sorted(found))


def reads_in(e):
    """Give the ascending tuple of the paths to names that are read in e."""
    return tuple(sorted([path + (1,) for path, node in nodes_of(e) if node[0] == "name"]))
