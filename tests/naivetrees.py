"""Trees of bare forms, and tables, by plain substitution, from the words of the document.

Nothing is taken from the package.
"""

import itertools
import random

YES, NO, LEFT_OUT = ("yes",), ("no",), ("left out",)


def ended(tree, yes, no):
    if tree in (YES, NO):
        return yes if tree == YES else no
    if tree[0] == "shows":
        return ("shows", tree[1], ended(tree[2], yes, no))
    return ("does", tree[1], ended(tree[2], yes, no), ended(tree[3], yes, no)) if tree[0] == "does" else tree


def filled(tree, parts):
    """Exchange what places do for trees, from the inside out."""
    if tree[0] == "does":
        part = parts[tree[1]]
        return LEFT_OUT if part is None else ended(part, filled(tree[2], parts), filled(tree[3], parts))
    return ("shows", tree[1], filled(tree[2], parts)) if tree[0] == "shows" else tree


def tree_of(book, node):
    """Give the tree of a bare template."""
    if node[0] == "truth":
        return YES if node[1] == "yes" else NO
    if node[0] == "part":
        return ("does", node[1], YES, NO)
    if node[0] == "fail":
        return ("fails", node[1])
    if node[0] == "own":
        (form,) = [form for form in book[2] if form[1] == node[1]]
        return filled(tree_of(book, form[5][0]), [tree_of(book, part) for part in node[3]])
    if node[0] == "then":
        last = tree_of(book, node[2])
        return ("shows", node[1][1][1], last) if node[1][0] == "show" else ended(tree_of(book, node[1]), last, last)
    return ended(*[tree_of(book, part) for part in node[1:]])


def within(tree):
    """List a tree and all trees in it."""
    found = [tree]
    for one in tree[2:] if tree[0] in ("does", "shows") else ():
        found += within(one)
    return found


def is_cut(cut, tree):
    return any(matches(cut, one, {}) for one in within(tree))


def matches(cut, tree, ends):
    if cut in (YES, NO):
        return ends.setdefault(cut, tree) == tree
    if cut[0] == "fails":
        return cut == tree
    return cut[:2] == tree[:2] and all(matches(one, other, ends) for one, other in zip(cut[2:], tree[2:]))


def table(forms, parts, tree, most):
    """Give the set of the trees of the least table, None for more; forms are pairs (tree, parts)."""
    found = {("does", i, YES, NO) for i in range(parts) if is_cut(("does", i, YES, NO), tree)}
    left_out = [None] if parts or any(many == 0 for _, many in forms) else []
    while len(found) <= most:
        new = set()
        for one, many in forms:
            for chosen in itertools.product(list(found) + left_out, repeat=many):
                made = filled(one, chosen)
                if LEFT_OUT not in within(made) and made not in found and is_cut(made, tree):
                    new.add(made)
        if not new:
            return found
        found |= new
    return None


def template(rnd, parts, depth):
    """Make a bare template without own uses."""
    roll = rnd.random()
    if depth == 0 or roll < 0.15:
        return rnd.choice([("truth", "yes"), ("truth", "no"), ("fail", "v")] + [("part", i) for i in range(parts)] * 2)
    if roll < 0.6:
        return ("if",) + tuple(template(rnd, parts, depth - 1) for _ in range(3))
    if roll < 0.75:
        return ("then", ("show", ("number", rnd.choice([1, 2]))), template(rnd, parts, depth - 1))
    return ("then", template(rnd, parts, depth - 1), template(rnd, parts, depth - 1))


def bare_book(seed, most=4):
    """Make a book of bare forms; the last one may use others."""
    rnd = random.Random(seed)
    forms = []
    for letter in "abcd"[:rnd.randint(2, most)]:
        parts = rnd.choice([0, 1, 1, 2, 2])
        forms.append(("form", "f" + letter, 0, parts, None, (template(rnd, parts, rnd.choice([1, 2, 2])),)))
    return ("book", (), tuple(forms))


def writing(rnd, book, names, parts, depth):
    """Make a writing, None if this comes to none."""
    if parts and (depth == 0 or rnd.random() < 0.3):
        return ("part", rnd.randrange(parts))
    fitting = [form for form in book[2] if form[1] in names and (depth > 0 or form[3] == 0)]
    if not fitting:
        return None
    form = rnd.choice(fitting)
    below = tuple(writing(rnd, book, names, parts, depth - 1) for _ in range(form[3]))
    return None if None in below else ("own", form[1], (), below, ())


def size(e):
    return 1 + sum(size(part) for part in e[3]) if e[0] == "own" else 1


def tree_size(tree):
    return 1 + sum(tree_size(one) for one in tree[2:]) if tree[0] in ("does", "shows") else 1
