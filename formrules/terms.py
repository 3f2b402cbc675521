"""Numbers, worths and kinds: what any value is one of them."""

MOST_NUMBER = 7
TRUTHS = ("yes", "no")


def is_number(thing):
    """Tell whether any value is an int that is no bool."""
    return isinstance(thing, int) and not isinstance(thing, bool)


def is_below(thing, most):
    """Tell whether any value is a number from 0 to below most."""
    return is_number(thing) and 0 <= thing < most


def is_figure(thing):
    """Tell whether any value is a number that a worth can have."""
    return is_below(thing, MOST_NUMBER + 1)


def is_truth_word(thing):
    """Tell whether any value is one of the words yes and no."""
    return isinstance(thing, str) and thing in TRUTHS


def headed(thing):
    """Give the head of a tuple that begins with a string, otherwise an empty string."""
    if isinstance(thing, tuple) and thing and isinstance(thing[0], str):
        return thing[0]
    return ""


def is_worth(thing):
    """Tell whether any value is a worth."""
    todo = [thing]
    while todo:
        one = todo.pop()
        if _is_pair_node(one):
            todo.extend(one[1:])
        elif not _is_plain_worth(one):
            return False
    return True


def _is_pair_node(thing):
    return headed(thing) == "pair" and len(thing) == 3


def _is_plain_worth(thing):
    head = headed(thing)
    if head not in ("number", "truth") or len(thing) != 2:
        return False
    return is_figure(thing[1]) if head == "number" else is_truth_word(thing[1])


def is_kind(thing):
    """Tell whether any value is a kind."""
    todo = [thing]
    while todo:
        one = todo.pop()
        if _is_pair_node(one):
            todo.extend(one[1:])
        elif not _is_plain_kind(one):
            return False
    return True


def _is_plain_kind(thing):
    head = headed(thing)
    if head in ("number", "truth"):
        return len(thing) == 1
    return head == "any" and len(thing) == 2 and is_number(thing[1]) and thing[1] >= 0
