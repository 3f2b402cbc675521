"""Forms and books of the document's examples, and some more that the tests use."""

P0, P1, P2 = ("part", 0), ("part", 1), ("part", 2)
B0, B1 = ("bind", 0), ("bind", 1)
R0, H0 = ("row", 0), ("here", 0)
YES, NO = ("truth", "yes"), ("truth", "no")
ASK = ("ask",)


def num(n):
    return ("number", n)


def name(x):
    return ("name", x)


def own(form, names=(), parts=(), rows=()):
    return ("own", form, tuple(names), tuple(parts), tuple((tuple(xs), tuple(es)) for xs, es in rows))


def form(word, binds, parts, row, *rules):
    return ("form", word, binds, parts, row, rules)


def book(*forms, cells=()):
    return ("book", tuple(cells), forms)


# The forms of [32].
BOTH = form("both", 0, 2, None, ("if", P0, P1, NO))
TWICE = form("twice", 1, 2, None, ("let", B0, P0, ("then", P1, P1)))
SWAP = form("swap", 0, 2, None, ("let", "t", P1, ("pair", name("t"), P0)))
BOOK32 = book(BOTH, TWICE, SWAP)

# The forms of [47].
ODD = form("odd", 1, 1, None, ("then", P0, ("let", B0, num(1), P0)))
CALM = form("calm", 0, 1, None, own("odd", ["t"], [P0]))
TWIN = form("twin", 2, 2, None, ("then", ("let", B0, num(1), P0), ("let", B1, num(2), P1)))
SEQ = form("seq", 0, 1, (1, 1), P0, ("let", R0, H0, ("rest",)))
BOOK47 = book(ODD, CALM, TWIN, SEQ)
E47 = ("let", "x", num(1), ("let", "y", num(2), own("twin", ["z", "w"], [name("x"), name("y")])))

# The form of [58].
F58 = form("f", 1, 2, None, (
    "if", P0, ("let", B0, num(1), P1), ("let", B0, YES, ("pair", P1, P0)),
))
BOOK58 = book(F58)

# A form whose part is dropped, one with a part twice, and one that fails.
DROP = form("drop", 1, 2, None, ("then", P0, num(0)))
DOUBLE = form("double", 0, 1, None, ("pair", P0, P0))
BROKEN = form("broken", 0, 1, None, ("then", P0, ("first", num(1))))
MIXED = book(ODD, TWICE, SEQ, DROP, DOUBLE, BROKEN, SWAP, cells=("c", "d"))


def chain(times, made, many=11):
    """Give a book of forms with one name and one part place, each made of the one ahead of it."""
    forms = [form("fa", 1, 1, None, ("let", B0, num(1), P0))]
    for letter in "bcdefghijkl"[:many - 1]:
        forms.append(form("f" + letter, 1, 1, None, made(forms[-1][1], times)))
    return book(*forms)


def side_by_side(word, times):
    """Use a form so many times, one use behind another."""
    e = own(word, [B0], [P0])
    for _ in range(times - 1):
        e = ("then", own(word, [B0], [P0]), e)
    return e


def inside(word, times):
    """Use a form so many times, one use within another."""
    e = P0
    for k in range(times):
        e = own(word, [B0 if k == 0 else "tuv"[k]], [e])
    return e


def sized(nodes):
    """Give a core expression of so many nodes that does not nest deep."""
    if nodes < 3:
        return num(1) if nodes == 1 else ("show", num(1))
    half = (nodes - 1) // 2
    return ("then", sized(half), sized(nodes - 1 - half))


# Values that are nothing the document tells of.
ODDITIES = [
    None, True, False, 0, 1, -1, 8, "", "x", "number", b"name", (), [], {}, ("",), (1,), ("name",), ["name", "x"],
    ("number", True), ("number", 8), ("number", -1), ("number", "1"), ("truth", "maybe"), ("truth", True),
    ("name", "if"), ("name", "X"), ("name", "abcdefghi"), ("name", 1), ("name", ["x"]), ("ask", 1), ("ask", ()),
    ("let", "x", ("ask",)), ("pair", ("ask",), 1), ("pair", ("ask",)), (("ask",),), ("number", 1, 2), {1: 2}, set(),
    ("any", -1), ("any", True), ("any",), ("own",), ("own", "f", (), (), ()), ("own", [], (), (), ()), object(), ([],), ({}, 1), (None,),
]
