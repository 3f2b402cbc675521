import unittest

from formrules.books import is_book, is_core, is_expression
from formrules.errors import BadBook

from fixtures import (
    ASK, B0, B1, BOOK32, BOOK47, BOOK58, BOTH, DOUBLE, H0, MIXED, NO, ODD, ODDITIES, P0, P1, R0, SEQ, SWAP, TWICE, TWIN,
    YES, book, chain, form, inside, name, num, own, side_by_side,
)

EVERY_CORE = ("let", "x", num(7), ("pair", ("first", ("pair", name("x"), YES)), ("second", (
    "if", ("less", num(0), ("plus", ASK, ("get", "c"))),
    ("while", NO, ("then", ("set", "c", num(1)), ("show", NO))),
    ("catch", "w", ("fail", "w"), ("truth", "no")),
))))


def with_rule(*rules, binds=1, parts=1, row=None, ahead=(), cells=("c",)):
    """Give what is a book exactly if a form with these rules is right behind others."""
    return book(*ahead, form("new", binds, parts, row, *rules), cells=cells)


class Books(unittest.TestCase):
    def test_books(self):
        for thing in (BOOK32, BOOK47, BOOK58, MIXED, book(), book(cells=("a", "b", "c", "d"))):
            self.assertIs(is_book(thing=thing), True)

    def test_no_books(self):
        for thing in ODDITIES + [("book", (), ()) + ((),), ("book", ()), ["book", (), ()], ("book", [], ()), ("book", (), [])]:
            self.assertIs(is_book(thing), False, thing)

    def test_cells(self):
        for cells in (("a", "b", "c", "d", "e"), ("a", "a"), ("if",), ("A",), (1,), "ab", ["a"], (["a"],)):
            self.assertIs(is_book(("book", cells, ())), False, cells)

    def test_names_of_forms(self):
        self.assertIs(is_book(book(BOTH, BOTH)), False)
        self.assertIs(is_book(book(BOTH, form("if", 0, 0, None, num(1)))), False)
        self.assertIs(is_book(book(BOTH, form(["x"], 0, 0, None, num(1)))), False)
        # Words of core that are not kept are names as others are, and a form may be called as a cell is.
        self.assertIs(is_book(book(form("number", 0, 0, None, num(1)), form("c", 0, 0, None, num(1)), cells=("c",))), True)

    def test_forms(self):
        right = form("new", 0, 0, None, num(1))
        self.assertIs(is_book(book(right)), True)
        for thing in ODDITIES + [right[:5], right + (1,), ("rule",) + right[1:], list(right), right[1:], ("form",)]:
            self.assertIs(is_book(book(thing)), False, thing)
            self.assertIs(is_book(book(right, thing)), False, thing)

    def test_numbers_of_places(self):
        for binds, parts, right in ((3, 4, True), (0, 0, True), (4, 0, False), (0, 5, False), (-1, 0, False),
                                    (True, 0, False), (0, False, False), ("1", 0, False), (None, 0, False)):
            self.assertIs(is_book(with_rule(num(1), binds=binds, parts=parts)), right)
            self.assertIs(is_book(with_rule(num(1), num(1), row=(binds, parts))), right)
        for row in ((1,), (1, 1, 1), [1, 1], 1, (), True):
            self.assertIs(is_book(with_rule(num(1), num(1), row=row)), False)

    def test_numbers_of_rules(self):
        self.assertIs(is_book(with_rule(num(1), num(1))), False)
        self.assertIs(is_book(with_rule()), False)
        self.assertIs(is_book(with_rule(num(1), row=(1, 1))), False)
        self.assertIs(is_book(with_rule(num(1), num(1), num(1), row=(1, 1))), False)
        self.assertIs(is_book(book(("form", "new", 0, 0, None, [num(1)]))), False)

    def test_templates(self):
        row = (1, 1)
        for rule in (P0, ("let", B0, P0, name(B0)), ("let", "x", P0, name("x")), own("twice", [B0], [P0, P0]),
                     own("seq", [], [P0], [(["x"], [P0]), ([B0], [name("x")])]), ("get", "c"), ("set", "c", P0)):
            self.assertIs(is_book(with_rule(rule, ahead=(TWICE, SEQ))), True, rule)
        for rule in ODDITIES + [
            ("plus", P0, P0), ("less", P0, P0), ("part", 1), ("part", -1), ("part", True), ("part",), ("part", 0, 0),
            ("let", ("bind", 1), P0, P0), ("let", ("bind", False), P0, P0), ("let", ("bind", 0, 0), P0, P0), ("let", R0, P0, P0), ("let", "if", P0, P0),
            H0, ("rest",), ("bind", 0), ("get", "d"), ("set", "d", P0), ("get", B0), ("fail", B0), ("catch", B0, P0, P0),
            own("new", [B0], [P0]), own("odd", [B0], [P0]), own("twice", [], [P0, P0]), own("twice", [B0], [P0]),
            own("twice", [B0], [P0, P0], [([], [])]), own("seq", [], [P0], [(["x"], [])]), ("part", [0]),
            own("seq", [], [P0], [([B0], [P0]), ([B0], [P0])]), ["part", 0], ("let", ["x"], P0, P0),
        ]:
            if rule not in (("ask",), ("name", "x")):
                self.assertIs(is_book(with_rule(rule, ahead=(TWICE, SEQ))), False, rule)
        for rule in (H0, R0, ("rest",), ("here", 1), ("row", 0)):
            self.assertIs(is_book(with_rule(rule, P0, row=row)), False)
        for rule in ODDITIES:
            if rule not in (("ask",), ("name", "x")):
                self.assertIs(is_book(with_rule(P0, rule, row=row)), False)
        for rule in (("here", 1), ("here", True), ("here", 0, 0), ("rest", 0), ("more",), ("let", ("row", 1), P0, P0), ("let", ("row", 0, 0), P0, P0)):
            self.assertIs(is_book(with_rule(P0, rule, row=row)), False)
        for rule in (H0, ("rest",), ("pair", ("rest",), ("rest",)), ("let", R0, H0, name(R0)), P0, num(1)):
            self.assertIs(is_book(with_rule(P0, rule, row=row)), True)

    def test_what_a_template_reads(self):
        for rule in (name("x"), name(B0), ("let", "x", name("x"), P0), ("then", ("let", B0, P0, P0), name(B0)),
                     ("let", B0, P0, name(B1)), ("let", "x", P0, name("y")), ("catch", "x", P0, name("x"))):
            self.assertIs(is_book(with_rule(rule, binds=2)), False, rule)
        first = ("let", R0, H0, name(R0))
        self.assertIs(is_book(with_rule(P0, first, row=(1, 1))), True)
        self.assertIs(is_book(with_rule(P0, ("then", first, name(R0)), row=(1, 1))), False)

    def test_what_a_form_within_lets_it_read(self):
        # twice lets its second part see its name, not its first one.
        self.assertIs(is_book(with_rule(own("twice", ["t"], [P0, name("t")]), ahead=(TWICE,))), True)
        self.assertIs(is_book(with_rule(own("twice", ["t"], [name("t"), P0]), ahead=(TWICE,))), False)
        self.assertIs(is_book(with_rule(own("twice", [B0], [P0, name(B0)]), ahead=(TWICE,))), True)
        # One copy of odd's part sees the name, the other one does not.
        self.assertIs(is_book(with_rule(own("odd", ["t"], [name("t")]), ahead=(ODD,))), False)
        self.assertIs(is_book(with_rule(("let", "t", P0, own("odd", ["t"], [name("t")])), ahead=(ODD,))), True)
        # A part that is dropped has no copies, so whatever it reads is let in each of them.
        drop = form("drop", 0, 1, None, num(1))
        self.assertIs(is_book(with_rule(own("drop", [], [name("t")]), ahead=(drop,))), True)
        self.assertIs(is_book(with_rule(own("drop", [], [own("odd", ["t"], [name("u")])]), ahead=(drop, ODD))), True)
        # Later rows of seq see the names of those ahead.
        rows = [(["x"], [P0]), (["y"], [name("x")])]
        self.assertIs(is_book(with_rule(own("seq", [], [name("y")], rows), ahead=(SEQ,))), True)
        rows = [(["x"], [name("y")]), (["y"], [P0])]
        self.assertIs(is_book(with_rule(own("seq", [], [P0], rows), ahead=(SEQ,))), False)

    def test_forms_stand_ahead_of_their_uses(self):
        self.assertIs(is_book(book(ODD, form("calm", 0, 1, None, own("odd", ["t"], [P0])))), True)
        self.assertIs(is_book(book(form("calm", 0, 1, None, own("odd", ["t"], [P0])), ODD)), False)

    def test_great_books_are_judged_without_writing_out(self):
        self.assertIs(is_book(chain(3, inside)), True)
        self.assertIs(is_book(chain(3, side_by_side)), True)
        last = chain(3, side_by_side)
        wrong = form("last", 0, 1, None, own("fk", ["t"], [("let", "u", name("v"), P0)]))
        right = form("last", 0, 1, None, own("fk", ["t"], [("let", "u", name("t"), P0)]))
        self.assertIs(is_book(book(*last[2], wrong)), False)
        self.assertIs(is_book(book(*last[2], right)), True)


class Expressions(unittest.TestCase):
    def test_bad_book_comes_first(self):
        for thing in ODDITIES:
            with self.assertRaises(BadBook):
                is_expression(book=thing, thing=None)

    def test_expressions(self):
        one = book(cells=("c",))
        self.assertIs(is_expression(one, EVERY_CORE), True)
        self.assertIs(is_expression(book=book(), thing=EVERY_CORE), False)
        self.assertIs(is_expression(one, ("get", "d")), False)
        self.assertIs(is_expression(one, own("both", [], [YES, YES])), False)
        self.assertIs(is_expression(BOOK32, own("both", [], [YES, own("twice", ["x"], [ASK, name("x")])])), True)

    def test_own_uses_fit(self):
        for thing in (
            own("twice", ["x"], [ASK]), own("twice", [], [ASK, ASK]), own("twice", ["x", "y"], [ASK, ASK]),
            own("twice", [1], [ASK, ASK]), own("twice", ["if"], [ASK, ASK]), own("twice", [["x"]], [ASK, ASK]),
            own("twice", ["x"], [ASK, ASK], [([], [])]), own("twice", [B0], [ASK, ASK]), own("twice", ["x"], [P0, ASK]),
            own("seq", [], [ASK], [(["x"], [ASK]), (["x"], [ASK])]), own("seq", [], [ASK], [([], [ASK])]),
            own("twin", ["x", "x"], [ASK, ASK]), ("own", "seq", (), (ASK,), (("x", (ASK,)),)), own("none", [], []),
            ("own", "twice", ["x"], (ASK, ASK), ()), ("own", "twice", ("x",), [ASK, ASK], ()),
            ("own", "twice", ("x",), (ASK, ASK), []), ("own", "seq", (), (ASK,), ([("x",), (ASK,)],)),
            ("own", "seq", (), (ASK,), ((["x"], (ASK,)),)), ("own", "seq", (), (ASK,), ((("x",), [ASK]),)),
            ("own", "seq", (), (ASK,), ((("x",), (ASK,), ()),)), ("own", "twice", "x", (ASK, ASK), ()),
        ):
            self.assertIs(is_expression(book(TWICE, SEQ, TWIN), thing), False, thing)
        for thing in (
            own("twice", ["x"], [ASK, ASK]), own("seq", [], [ASK]), own("twin", ["x", "y"], [name("y"), name("x")]),
            own("seq", [], [ASK], [(["x"], [ASK]), (["y"], [ASK])]),
        ):
            self.assertIs(is_expression(book(TWICE, SEQ, TWIN), thing), True, thing)

    def test_core(self):
        self.assertIs(is_core(EVERY_CORE), True)
        self.assertIs(is_core(thing=("pair", ("get", "a"), ("set", "zz", ASK))), True)
        for thing in (own("both", [], [YES, YES]), P0, ("rest",), ("let", B0, ASK, ASK), ("get", "if"), ("get", 1),
                      ("fail", "A"), ("catch", "w", ASK), ("catch", ["w"], ASK, ASK), ("let", "x", P0, ASK)):
            self.assertIs(is_core(thing), False, thing)

    def test_any_value(self):
        for thing in ODDITIES:
            right = thing in (("ask",), ("name", "x"))
            self.assertIs(is_core(thing), right)
            self.assertIs(is_expression(MIXED, thing), right)
            if not right:
                self.assertIs(is_core(("pair", ASK, thing)), False)
                self.assertIs(is_expression(MIXED, own("double", [], [thing])), False)

    def test_as_deep_as_may_be(self):
        e = ASK
        for _ in range(149):
            e = ("show", e)
        self.assertIs(is_core(e), True)
        self.assertIs(is_core(("pair", e, 1)), False)


if __name__ == "__main__":
    unittest.main()
