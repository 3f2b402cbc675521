"""Books, their expressions, and core expressions."""

from formrules.errors import BadBook
from formrules.judging import Judge
from formrules.seeing import Sights, with_all
from formrules.shapes import IN_LET, kids
from formrules.shelves import Shelf
from formrules.terms import headed, is_below
from formrules.words import is_name

MOST_CELLS = 4
MOST_BINDS = 3
MOST_PARTS = 4


def is_book(thing):
    """Tell whether any value is a book."""
    if headed(thing) != "book" or len(thing) != 3:
        return False
    cells, forms = thing[1:]
    if not _are_cells(cells) or not isinstance(forms, tuple):
        return False
    shapes = {}
    sights = Sights(Shelf(()))
    for form in forms:
        if not _is_form(form, cells, shapes) or not _reads_well(form, sights):
            return False
        shapes[form[1]] = form[2:5]
        sights.shelf.take(form)
    return True


def _are_cells(thing):
    if not isinstance(thing, tuple) or len(thing) > MOST_CELLS:
        return False
    if not all([is_name(cell) for cell in thing]):
        return False
    return len({cell: True for cell in thing}) == len(thing)


def _is_form(thing, cells, shapes):
    """Tell whether any value is a form behind forms of these shapes, but for what it reads."""
    if headed(thing) != "form" or len(thing) != 6:
        return False
    _, name, binds, parts, row, rules = thing
    if not is_name(name) or name in shapes or not _are_many(binds, parts):
        return False
    if row is not None and not (isinstance(row, tuple) and len(row) == 2 and _are_many(row[0], row[1])):
        return False
    if not isinstance(rules, tuple) or len(rules) != (1 if row is None else 2):
        return False
    judges = [Judge(cells, shapes, (binds, parts, None)), Judge(cells, shapes, (binds, parts, row))]
    return all([judge.lets(rule) for judge, rule in zip(judges, rules)])


def _are_many(binds, parts):
    return is_below(binds, MOST_BINDS + 1) and is_below(parts, MOST_PARTS + 1)


def _reads_well(form, sights):
    """Tell whether all that the templates of a form read is let by themselves, in every copy."""
    return all([_reads_own(rule, sights) for rule in form[5]])


def _reads_own(rule, sights):
    todo = [(rule, {})]
    while todo:
        node, let = todo.pop()
        if node[0] == "name" and node[1] not in let:
            return False
        if node[0] == "own":
            todo.extend([(part, with_all(let, sure)) for _, part, sure, _ in sights.parts_seen(node)])
        else:
            for steps, part in kids(node):
                here = [node[1]] if node[0] == "let" and steps == IN_LET else []
                todo.append((part, with_all(let, here)))
    return True


def is_expression(book, thing):
    """Tell whether any value is an expression of the book; BadBook."""
    if not is_book(book):
        raise BadBook("no book")
    return is_expression_of(book, thing)


def is_expression_of(book, thing):
    """Tell whether any value is an expression of what is known to be a book."""
    shapes = {form[1]: form[2:5] for form in book[2]}
    return Judge(book[1], shapes, None).lets(thing)


def is_core(thing):
    """Tell whether any value is a core expression, whatever its cells are."""
    return Judge(None, {}, None).lets(thing)
