"""Whether core expressions are equal up to the names that their lets bind."""

from formrules.books import is_core
from formrules.errors import BadExpression
from formrules.shapes import FIELDS, IN_LET, kids


def alike(one, other):
    """Tell whether two core expressions are equal up to bound names; BadExpression for each."""
    for e in (one, other):
        if not is_core(e):
            raise BadExpression("this is no core expression")
    return _nameless(one) == _nameless(other)


def _nameless(e):
    """List the nodes of e in order, without parts, each bound name told by its let's number."""
    found = []
    lets = 0
    todo = [(e, {})]
    while todo:
        node, bound = todo.pop()
        inner = bound
        if node[0] == "name":
            found.append(("name", bound.get(node[1], node[1])))
        elif node[0] == "let":
            lets += 1
            inner = dict(bound)
            inner[node[1]] = lets
            found.append(("let",))
        else:
            found.append(_without_parts(node))
        below = [(part, inner if steps == IN_LET else bound) for steps, part in kids(node)]
        todo.extend(below[::-1])
    return found


def _without_parts(node):
    fields = FIELDS[node[0]]
    return [node[0]] + [item for item, field in zip(node[1:], fields) if field != "part"]
