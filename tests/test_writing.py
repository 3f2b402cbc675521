import unittest

from formrules.errors import BadBook, BadExpression, BadUse, TooMany
from formrules.naming import alike
from formrules.shapes import nodes_of
from formrules.writing import once, written

from calls import check_calls
from fixtures import (
    ASK, B0, BOOK32, H0, MIXED, P0, P1, R0, YES, book, chain, form, inside, name, num, own, side_by_side, sized,
)


class Alike(unittest.TestCase):
    def test_calls(self):
        check_calls(self, alike, {"one": ASK, "other": ASK}, [
            ("one", own("swap", [], [ASK, ASK]), BadExpression), ("one", ("ask", 1), BadExpression),
            ("other", None, BadExpression), ("other", P0, BadExpression),
        ])

    def test_names_of_lets_do_not_matter(self):
        one = ("let", "x", ASK, ("let", "y", name("x"), ("pair", name("x"), name("y"))))
        other = ("let", "y", ASK, ("let", "x", name("y"), ("pair", name("y"), name("x"))))
        self.assertIs(alike(one, other), True)
        swapped = ("let", "y", ASK, ("let", "x", name("y"), ("pair", name("x"), name("y"))))
        self.assertIs(alike(one, swapped), False)
        caught = ("let", "x", ASK, ("let", "x", name("x"), ("pair", name("x"), name("x"))))
        self.assertIs(alike(one, caught), False)
        self.assertIs(alike(caught, ("let", "x", ASK, ("let", "y", name("x"), ("pair", name("y"), name("y"))))), True)

    def test_free_names_must_be_equal(self):
        self.assertIs(alike(name("x"), name("x")), True)
        self.assertIs(alike(name("x"), name("y")), False)
        self.assertIs(alike(("let", "x", name("x"), ASK), ("let", "y", name("x"), ASK)), True)
        self.assertIs(alike(("let", "x", name("x"), ASK), ("let", "y", name("y"), ASK)), False)
        self.assertIs(alike(("let", "x", ASK, name("x")), ("let", "x", ASK, name("y"))), False)
        self.assertIs(alike(("let", "x", ASK, name("y")), ("let", "y", ASK, name("y"))), False)

    def test_all_else_must_be_equal(self):
        for one, other in ((num(1), num(2)), (num(1), YES), (("get", "c"), ("get", "d")), (("fail", "v"), ("fail", "w")),
                           (("catch", "v", ASK, ASK), ("catch", "w", ASK, ASK)), (ASK, ("show", ASK)),
                           (("pair", ASK, num(1)), ("pair", num(1), ASK)), (("first", ASK), ("second", ASK)),
                           (("set", "c", ASK), ("set", "d", ASK)), (("let", "x", ASK, ASK), ("then", ASK, ASK)),
                           (("pair", ("let", "x", ASK, ASK), YES), ("pair", ASK, ("let", "x", ASK, YES)))):
            self.assertIs(alike(one, other), False)
            self.assertIs(alike(one, one), True)


class Written(unittest.TestCase):
    def test_calls(self):
        use = own("swap", [], [ASK, ASK])
        bad = [("book", None, BadBook), ("book", ("book", (), [()]), BadBook)]
        check_calls(self, written, {"book": BOOK32, "e": use}, bad + [("e", P0, BadExpression)])
        check_calls(self, once, {"book": BOOK32, "use": use}, bad + [
            ("use", own("seq"), BadExpression), ("use", ASK, BadUse), ("use", ("show", use), BadUse),
        ])

    def test_example(self):
        e = own("twice", ["x"], [ASK, ("show", name("x"))])
        self.assertEqual(written(BOOK32, e), ("let", "x", ASK, ("then", ("show", name("x")), ("show", name("x")))))
        e = own("swap", [], [ASK, name("a")])
        self.assertEqual(written(BOOK32, e), ("let", "b", name("a"), ("pair", name("b"), ASK)))
        self.assertEqual(once(BOOK32, e), ("let", "b", name("a"), ("pair", name("b"), ASK)))

    def test_core_is_written_as_itself(self):
        e = ("let", "x", ASK, ("let", "x", name("x"), ("catch", "w", ("set", "c", name("y")), ("fail", "v"))))
        self.assertEqual(written(MIXED, e), e)

    def test_no_name_of_a_use_is_caught(self):
        e = ("let", "t", num(1), own("swap", [], [name("t"), num(2)]))
        self.assertEqual(written(BOOK32, e), ("let", "t", num(1), ("let", "a", num(2), ("pair", name("a"), name("t")))))

    def test_a_catch_of_a_template_catches_a_parts_fault(self):
        guard = form("guard", 0, 1, None, ("catch", "w", P0, num(0)))
        self.assertEqual(written(book(guard), own("guard", [], [("fail", "w")])), ("catch", "w", ("fail", "w"), num(0)))

    def test_free_names_stand_nowhere_in_it(self):
        forms = [form("b", 0, 2, None, ("let", "t", P0, ("then", P1, name("t"))))]
        cells = ("c",)
        e = own("b", [], [("get", "c"), ("catch", "d", ("fail", "e"), ("let", "f", name("a"), ASK))])
        found = written(("book", cells, tuple(forms)), e)
        self.assertEqual(found[1], "g")
        # What stands elsewhere in the book alone may be a fresh name, even a fault of the template.
        forms = [form("other", 0, 1, None, ("let", "t", ("fail", "a"), P0))]
        self.assertEqual(written(book(*forms, cells=("b",)), own("other", [], [ASK])), ("let", "a", ("fail", "a"), ASK))

    def test_kept_words_are_no_fresh_names(self):
        many = form("many", 0, 0, None, ("let", "t", num(1), name("t")))
        e = num(0)
        for _ in range(40):
            e = ("pair", own("many"), e)
        e = written(book(many), e)
        names = []
        while e[0] == "pair":
            names.append(e[1][1])
            e = e[2]
        letters = "abcdefghijklmnopqrstuvwxyz"
        wanted = list(letters) + ["a" + letter for letter in letters if letter != "s"]
        self.assertEqual(names, wanted[:40])

    def test_numbered_by_lets_in_order(self):
        inner = form("inner", 0, 1, None, ("let", "t", num(1), ("pair", name("t"), P0)))
        outer = form("outer", 0, 1, None, ("let", "x", own("inner", [], [num(2)]), ("let", "t", name("x"), P0)))
        found = written(book(inner, outer), own("outer", [], [ASK]))
        self.assertEqual(found, (
            "let", "a", ("let", "b", num(1), ("pair", name("b"), num(2))), ("let", "c", name("a"), ASK),
        ))

    def test_one_fresh_name_for_one_own_name(self):
        # Both lets of the template bear one own name, and both copies of a use have names of their own.
        both = form("both", 0, 1, None, ("then", ("let", "t", num(1), name("t")), ("let", "t", num(2), P0)))
        found = written(book(both), own("both", [], [own("both", [], [ASK])]))
        self.assertEqual(found, (
            "then", ("let", "a", num(1), name("a")), ("let", "a", num(2), (
                "then", ("let", "b", num(1), name("b")), ("let", "b", num(2), ASK),
            )),
        ))
        twice = form("copies", 0, 1, None, ("pair", P0, P0))
        user = form("user", 0, 0, None, own("copies", [], [("let", "t", num(1), name("t"))]))
        self.assertEqual(written(book(twice, user), own("user")), (
            "pair", ("let", "a", num(1), name("a")), ("let", "a", num(1), name("a")),
        ))
        # A use that is copied is written out anew each time.
        found = written(book(twice, user, both), own("copies", [], [own("user")]))
        self.assertEqual(found[1][1][1], "a")
        self.assertEqual(found[2][1][1], "b")

    def test_rows(self):
        rows = [(["x"], [num(1)]), (["y"], [num(2)]), (["z"], [name("x")])]
        e = own("seq", [], [name("z")], rows)
        self.assertEqual(written(MIXED, e), (
            "let", "x", num(1), ("let", "y", num(2), ("let", "z", name("x"), name("z"))),
        ))
        self.assertEqual(once(MIXED, e), ("let", "x", num(1), own("seq", [], [name("z")], rows[1:])))
        self.assertEqual(written(MIXED, own("seq", [], [ASK])), ASK)

    def test_rest_keeps_names_and_parts(self):
        rows = form("rows", 1, 1, (0, 1), ("let", B0, num(0), P0), ("pair", ("let", B0, H0, P0), ("rest",)))
        e = own("rows", ["x"], [name("x")], [([], [num(1)]), ([], [num(2)])])
        self.assertEqual(once(book(rows), e), (
            "pair", ("let", "x", num(1), name("x")), own("rows", ["x"], [name("x")], [([], [num(2)])]),
        ))
        self.assertEqual(written(book(rows), e), (
            "pair", ("let", "x", num(1), name("x")),
            ("pair", ("let", "x", num(2), name("x")), ("let", "x", num(0), name("x"))),
        ))

    def test_once_writes_out_one_use_alone(self):
        use = own("swap", [], [own("swap", [], [ASK, ASK]), name("x")])
        self.assertEqual(once(BOOK32, use), (
            "let", "a", name("x"), ("pair", name("a"), own("swap", [], [ASK, ASK])),
        ))

    def test_once_numbers_what_no_let_bears_behind(self):
        lets = form("lets", 2, 1, (1, 1), ("let", B0, num(1), ("let", ("bind", 1), num(2), P0)), (
            "let", R0, H0, ("rest",),
        ))
        drop = form("drop", 0, 1, None, num(1))
        user = form("user", 0, 1, None, ("pair", own("drop", [], [name("s")]), (
            "then", own("lets", ["p", "q"], [name("q")], [(["r"], [own("lets", ["v", "u"], [name("u")])])]),
            ("let", "t", P0, name("t")),
        )))
        self.assertEqual(once(book(lets, drop, user), own("user", [], [ASK])), ("pair", own("drop", [], [name("g")]), (
            "then", own("lets", ["b", "c"], [name("c")], [(["d"], [own("lets", ["e", "f"], [name("f")])])]),
            ("let", "a", ASK, name("a")),
        )))

    def test_too_many(self):
        double = form("double", 0, 1, None, ("pair", P0, P0))
        fitting = own("double", [], [sized(499)])
        self.assertEqual(len(nodes_of(written(book(double), fitting))), 999)
        self.assertEqual(len(nodes_of(written(book(double), ("show", fitting)))), 1000)
        with self.assertRaises(TooMany) as caught:
            written(book(double), ("show", ("show", fitting)))
        self.assertEqual(caught.exception.most, 1000)
        with self.assertRaises(BadExpression):
            written(book(double), ("then", fitting, ("pair", fitting, P0)))

    def test_too_many_is_found_without_writing_out(self):
        for made in (inside, side_by_side):
            great = chain(3, made)
            with self.assertRaises(TooMany):
                written(great, own("fk", ["x"], [name("x")]))
            self.assertEqual(once(great, own("fa", ["x"], [ASK])), ("let", "x", num(1), ASK))

    def test_dropped_parts_do_not_count(self):
        drop = form("drop", 0, 1, None, num(1))
        e = sized(300)
        for _ in range(40):
            e = own("drop", [], [e])
        self.assertEqual(written(book(drop), e), num(1))


if __name__ == "__main__":
    unittest.main()
