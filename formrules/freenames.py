"""Free names: names that stand nowhere in some expressions."""

from formrules.shapes import FIELDS, names_in, nodes_of
from formrules.words import LETTERS, is_name


def free_names(taken, many):
    """List the first names that are not among the keys of taken, shorter ones first."""
    found = []
    level = [""]
    while len(found) < many:
        level = [word + letter for word in level for letter in LETTERS]
        free = [word for word in level if is_name(word) and word not in taken]
        found.extend(free[:many - len(found)])
    return found


def words_in(e):
    """Give a dict of all words that stand in e as a name, a cell, a fault or a form."""
    found = {}
    for _, node in nodes_of(e):
        for x in names_in(node):
            found[x] = True
        if node[0] == "own" or FIELDS[node[0]][:1] in (("cell",), ("fault",)):
            found[node[1]] = True
    return found
