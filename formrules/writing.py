"""Writing out of expressions, wholly or by one step."""

from formrules.errors import BadUse, TooMany
from formrules.expanding import Sizes, Writer
from formrules.freenames import free_names, words_in
from formrules.guards import shelf_for
from formrules.shapes import names_in, nodes_of, assembled

MOST_NODES = 1000


def once(book, use):
    """Give what an own use is written out to in one step; BadBook, BadExpression, BadUse."""
    shelf = shelf_for(book, use)
    if use[0] != "own":
        raise BadUse("this is no own use")
    nodes = [node for _, node in nodes_of(Writer(shelf).once(use))]
    return _named(nodes, use)


def written(book, e):
    """Give what an expression is written out to; BadBook, BadExpression, TooMany(1000)."""
    return written_on(shelf_for(book, e), e)


def written_on(shelf, e):
    """Give what an expression of a shelf is written out to; TooMany(1000)."""
    if Sizes(shelf).of(e) > MOST_NODES:
        raise TooMany(MOST_NODES)
    return _named(Writer(shelf).flat(e), e)


def _named(nodes, e):
    """Give what has these nodes in order, fresh names being named as free names of e."""
    fresh = {}
    for heads in (("let",), ("own",), ("name",)):
        for node in nodes:
            if node[0] in heads:
                for x in names_in(node):
                    if not isinstance(x, str):
                        fresh[x] = True
    named = free_names(words_in(e), len(fresh))
    return assembled(nodes, {x: name for x, name in zip(fresh, named)}, {})
