"""Fewest names: how few names the binders of an expression can share.

A read that is led through a let or a use on its way to its binder must find another name there. So
at each node its own binders, no two of which get on, meet the binders that are led through it, no
two of which get on either; a greatest matching tells how many of the ones can share names with the
others. Going down from the top, as many names as the worst node needs are enough everywhere.
"""

from formrules.errors import NotClear
from formrules.guards import shelf_for
from formrules.layers import led, reads_with_layers
from formrules.matching import Matching
from formrules.shapes import nodes_of, use_names


def fewest_names(book, e):
    """Give groups of binders that get on, and as many of which no two do; BadBook, BadExpression, NotClear(spot)."""
    shelf = shelf_for(book, e)
    _need_clear(shelf, e)
    places = _own_binders(e)
    through, unlike = _led_through(shelf, e)
    matchings = {path: _matching(places[path], through.get(path, {}), unlike) for path in places}
    names = {}
    most, lot = 0, []
    for path in places:
        passing = through.get(path, {})
        _give_names(names, places[path], passing, matchings[path])
        needed = len(places[path]) + len(passing) - len(matchings[path].mates)
        if needed > most:
            most, lot = needed, matchings[path].apart(passing)
    return _groups(names), tuple(sorted(lot))


def _need_clear(shelf, e):
    found = led(shelf, e)
    for spot in found:
        if len(found[spot]) != 1 or found[spot][0] is None:
            raise NotClear(spot)


def _own_binders(e):
    """Give the dict from the paths of nodes, in order, to the lists of the binders at them."""
    found = {}
    for path, node in nodes_of(e):
        if node[0] == "let":
            found[path] = [path + (1,)]
        elif node[0] == "own":
            found[path] = [path + steps for _, steps, _ in use_names(node)]
    return found


def _led_through(shelf, e):
    """Tell for each node the binders led through it, and all pairs (outer, inner) that need two names."""
    through, unlike = {}, {}
    for _, x, layers in reads_with_layers(shelf, e):
        inner = _layers_within(x, layers)
        binder = layers[len(layers) - len(inner) - 1][1][x][0]
        for path, names in inner:
            through.setdefault(path, {})[binder] = True
            for other in names:
                unlike[(binder, names[other][0])] = True
    return through, unlike


def _layers_within(x, layers):
    """List the layers that a read of x is led through, from outside."""
    at = len(layers) - 1
    while x not in layers[at][1]:
        at -= 1
    return layers[at + 1:]


def _matching(own, passing, unlike):
    ties = {}
    for one in own:
        ties[one] = [other for other in passing if (other, one) not in unlike]
    return Matching(ties)


def _give_names(names, own, passing, matching):
    """Give numbers as names to the binders of a node, those led through it having theirs."""
    barred = {names[other]: True for other in passing}
    number = 0
    for one in own:
        if one in matching.mates:
            names[one] = names[matching.mates[one]]
        else:
            while number in barred:
                number += 1
            names[one] = number
            number += 1


def _groups(names):
    groups = {}
    for binder in names:
        groups.setdefault(names[binder], []).append(binder)
    return tuple(sorted([tuple(sorted(groups[number])) for number in groups]))
