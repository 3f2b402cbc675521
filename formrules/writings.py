"""Writings: templates of own uses of bare forms alone, and cuts of trees."""

from formrules.errors import BadLot, BadTree, BadWriting
from formrules.forests import Forest
from formrules.guards import shelf_of
from formrules.terms import headed, is_below
from formrules.trees import Bares, is_tree_over, need_parts


def is_writing(book, names, parts, thing):
    """Tell whether any value is a writing by a lot over so many places; BadBook, BadLot, BadParts."""
    bares = bares_with(book, names)
    need_parts(parts)
    return _is_writing(bares, names, parts, thing)


def bares_with(book, names):
    """Give the bare forms of a book; BadBook; BadLot unless names is a tuple of different names of these."""
    bares = Bares(shelf_of(book))
    need_lot(bares, names)
    return bares


def need_lot(bares, names):
    """BadLot unless any value is a tuple of different names of bare forms."""
    if not isinstance(names, tuple) or not all([isinstance(name, str) and bares.has(name) for name in names]):
        raise BadLot("this is no tuple of names of bare forms")
    if len({name: True for name in names}) != len(names):
        raise BadLot("a name stands in the lot twice")


def _is_writing(bares, names, parts, thing):
    todo = [thing]
    while todo:
        node = todo.pop()
        if headed(node) == "part":
            if len(node) != 2 or not is_below(node[1], parts):
                return False
        elif headed(node) != "own" or not _is_use(bares, names, node):
            return False
        else:
            todo.extend(node[3])
    return True


def _is_use(bares, names, node):
    """Tell whether a tuple headed own is a use of a form of a lot, but for its parts."""
    if len(node) != 5 or node[2] != () or node[4] != () or not isinstance(node[3], tuple):
        return False
    return isinstance(node[1], str) and node[1] in names and len(node[3]) == bares.shelf.forms[node[1]][3]


def tree_written(book, names, parts, writing):
    """Give the tree of a writing; BadBook, BadLot, BadParts, BadWriting."""
    bares = bares_with(book, names)
    need_parts(parts)
    if not _is_writing(bares, names, parts, writing):
        raise BadWriting("this is no writing")
    for name in names:
        bares.number(name)
    return bares.forest.tree(bares.number_of(writing))


def is_cut(parts, tree, thing):
    """Tell whether any value is a tree over so many places and a cut of a tree; BadParts, BadTree."""
    need_tree(parts, tree)
    if not is_tree_over(parts, thing):
        return False
    forest = Forest()
    return forest.is_cut(forest.put(thing), forest.put(tree))


def need_tree(parts, tree):
    """BadParts; BadTree unless any value is a tree over so many places."""
    need_parts(parts)
    if not is_tree_over(parts, tree):
        raise BadTree("this is no tree")
