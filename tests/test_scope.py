import unittest

import naive

from formrules.books import is_expression
from formrules.closed import is_closed
from formrules.errors import BadBook, BadExpression, BadForm, BadMany, NoRule
from formrules.leading import binders, is_unclear, no_rule
from formrules.sights import has_rule, rule, sights
from formrules.spots import spots

from calls import check_calls
from fixtures import (
    ASK, B0, B1, BOOK47, E47, H0, MIXED, NO, ODD, ODDITIES, P0, P1, R0, SEQ, TWIN, YES, book, chain, form, inside,
    name, num, own, side_by_side,
)

# seq whose later rows are done twice, once ahead of the name of the row.
UNEVEN = form("uneven", 0, 1, (1, 1), P0, ("then", ("rest",), ("let", R0, H0, ("rest",))))
# Rows are unclear from two rows on.
TWO = form("two", 1, 1, (0, 1), P0, ("then", H0, ("let", B0, num(1), ("rest",))))
# No number of rows but 0 lets the part stand.
NEVER = form("never", 0, 2, (0, 1), P0, ("then", H0, num(1)))
BAD_BOOK = [("book", None, BadBook), ("book", ("book", ("a", "a"), ()), BadBook)]
BAD_NAME = [("name", thing, BadForm) for thing in ("none", None, 1, ["odd"], ("odd",))]


class Spots(unittest.TestCase):
    def test_calls(self):
        check_calls(self, spots, {"book": BOOK47, "e": E47}, BAD_BOOK + [("e", P0, BadExpression)])

    def test_example(self):
        self.assertEqual(spots(BOOK47, E47), (
            ((1,), (3, 1), (3, 3, 2, 0), (3, 3, 2, 1)), ((3, 3, 3, 0, 1), (3, 3, 3, 1, 1)),
        ))

    def test_rows(self):
        rows = [(["x"], [name("y")]), (["y"], [("let", "z", ASK, name("z"))])]
        self.assertEqual(spots(MIXED, own("seq", [], [name("x")], rows)), (
            ((4, 0, 0, 0), (4, 1, 0, 0), (4, 1, 1, 0, 1)), ((3, 0, 1), (4, 0, 1, 0, 1), (4, 1, 1, 0, 3, 1)),
        ))
        self.assertEqual(spots(MIXED, ("show", ("get", "c"))), ((), ()))
        self.assertEqual(spots(MIXED, ("catch", "w", name("w"), ("set", "c", name("c")))), ((), ((2, 1), (3, 2, 1))))


class Sights(unittest.TestCase):
    def test_calls(self):
        bad = BAD_BOOK + BAD_NAME + [("many", thing, BadMany) for thing in (-1, 9, True, None, "1", (1,))]
        for function in (sights, rule):
            check_calls(self, function, {"book": BOOK47, "name": "seq", "many": 8}, bad)
            check_calls(self, function, {"book": BOOK47, "name": "twin", "many": 0}, [("many", 1, BadMany)])
        check_calls(self, has_rule, {"book": BOOK47, "name": "seq"}, BAD_BOOK + BAD_NAME)

    def test_example(self):
        self.assertEqual(sights(BOOK47, "odd", 0), {P0: ((), (B0,))})
        self.assertEqual(rule(BOOK47, "calm", 0), {P0: ()})
        self.assertIs(has_rule(BOOK47, "odd"), False)
        self.assertIs(has_rule(BOOK47, "calm"), True)
        self.assertEqual(rule(BOOK47, "seq", 2), {
            ("here", 0, 0): (), ("here", 1, 0): (("row", 0, 0),), P0: (("row", 0, 0), ("row", 1, 0)),
        })

    def test_keys_ascend(self):
        self.assertEqual(list(sights(BOOK47, "seq", 3)), [("here", 0, 0), ("here", 1, 0), ("here", 2, 0), P0])
        self.assertEqual(list(sights(BOOK47, "twin", 0)), [P0, P1])
        self.assertEqual(list(rule(BOOK47, "seq", 2)), [("here", 0, 0), ("here", 1, 0), P0])

    def test_places_that_do_not_stand(self):
        self.assertEqual(sights(MIXED, "drop", 0), {P0: ((), ()), P1: None})
        self.assertEqual(rule(MIXED, "drop", 0), {P0: (), P1: None})
        user = form("user", 1, 2, None, own("drop", [B0], [P0, ("let", B0, ASK, P1)]))
        self.assertEqual(sights(book(*MIXED[2], user, cells=("c", "d")), "user", 0), {P0: ((), ()), P1: None})
        self.assertEqual(sights(book(NEVER), "never", 0), {P0: ((), ()), P1: None})
        self.assertEqual(sights(book(NEVER), "never", 2), {("here", 0, 0): ((), ()), ("here", 1, 0): None, P0: None, P1: None})

    def test_names_are_handed_on(self):
        one = form("one", 2, 1, None, own("twin", [B1, "t"], [P0, own("odd", [B0], [P0])]))
        self.assertEqual(sights(book(ODD, TWIN, one), "one", 0), {P0: ((), (B0, B1))})
        other = form("other", 1, 1, None, ("let", B0, P0, own("odd", [B0], [P0])))
        self.assertEqual(sights(book(ODD, other), "other", 0), {P0: ((), (B0,))})
        again = form("again", 1, 1, None, ("let", B0, num(1), own("odd", [B0], [P0])))
        self.assertEqual(sights(book(ODD, again), "again", 0), {P0: ((B0,), (B0,))})

    def test_rest_counts_as_a_use(self):
        self.assertEqual(sights(book(UNEVEN), "uneven", 1), {("here", 0, 0): ((), ()), P0: ((), (("row", 0, 0),))})
        self.assertEqual(sights(book(TWO), "two", 2), {
            ("here", 0, 0): ((), ()), ("here", 1, 0): ((B0,), (B0,)), P0: ((B0,), (B0,)),
        })

    def test_no_rule(self):
        with self.assertRaises(NoRule) as caught:
            rule(BOOK47, "odd", 0)
        self.assertEqual(caught.exception.place, P0)
        with self.assertRaises(NoRule) as caught:
            rule(book(UNEVEN), "uneven", 2)
        self.assertEqual(caught.exception.place, ("here", 1, 0))
        self.assertEqual(rule(book(UNEVEN), "uneven", 0), {P0: ()})

    def test_rules_for_every_number_of_rows(self):
        self.assertIs(has_rule(book(UNEVEN), "uneven"), False)
        self.assertIs(has_rule(book(TWO), "two"), True)
        second = form("behind", 0, 1, (1, 1), P0, ("then", own("odd", [R0], [H0]), ("rest",)))
        self.assertIs(has_rule(book(ODD, second), "behind"), False)
        # A form that is clear with one row, and not with two: the rest is done within and without.
        later = form("later", 0, 1, (1, 1), num(1), ("then", ("rest",), ("let", R0, H0, ("rest",))))
        self.assertEqual(rule(book(later), "later", 1), {("here", 0, 0): (), P0: None})
        self.assertIs(has_rule(book(later), "later"), False)

    def test_two_rows_tell_all(self):
        for one in (SEQ, UNEVEN, TWO, NEVER):
            told = book(one)
            clear = []
            for many in range(9):
                found = sights(told, one[1], many)
                clear.append(all(both is None or both[0] == both[1] for both in found.values()))
            self.assertEqual(has_rule(told, one[1]), all(clear))
            self.assertEqual(all(clear), all(clear[:3]))

    def test_great_books(self):
        self.assertEqual(sights(chain(3, inside), "fk", 0), {P0: ((B0,), (B0,))})
        self.assertEqual(sights(chain(3, side_by_side), "fk", 0), {P0: ((B0,), (B0,))})
        rows = [SEQ]
        for letter in "abcdefghij":
            last = rows[-1][1]
            use = own(last, [], [("rest",)], [([R0], [H0]), (["t"], [own(last, [], [H0], [(["u"], [P0])])])])
            rows.append(form("s" + letter, 0, 1, (1, 1), own(last, [], [P0], [(["v"], [P0])]), use))
        told = book(*rows)
        for many in (0, 1, 2, 8):
            self.assertEqual(sorted(sights(told, "sj", many)), list(sights(told, "sj", many)))
        for many in (0, 1, 2):
            self.assertEqual(sights(told, "sa", many), naive.sights(told, "sa", many))


class Leading(unittest.TestCase):
    def test_calls(self):
        check_calls(self, binders, {"book": BOOK47, "e": E47}, BAD_BOOK + [("e", own("odd"), BadExpression)])
        check_calls(self, is_closed, {"book": BOOK47, "e": E47}, BAD_BOOK + [("e", own("odd"), BadExpression)])
        check_calls(self, no_rule, {"book": BOOK47, "name": "odd"}, BAD_BOOK + BAD_NAME)
        check_calls(self, is_unclear, {"book": BOOK47, "name": "odd", "thing": 1}, BAD_BOOK + BAD_NAME)

    def test_example(self):
        self.assertEqual(binders(BOOK47, own("odd", ["x"], [name("x")])), {(3, 0, 1): ((2, 0), None)})
        self.assertEqual(binders(BOOK47, E47), {(3, 3, 3, 0, 1): ((1,),), (3, 3, 3, 1, 1): ((3, 1),)})
        self.assertIs(is_unclear(BOOK47, "odd", (own("odd", ["x"], [name("x")]), (3, 0, 1))), True)

    def test_lets(self):
        e = ("let", "x", name("x"), ("let", "x", name("x"), ("pair", name("x"), name("y"))))
        self.assertEqual(binders(MIXED, e), {(2, 1): (None,), (3, 2, 1): ((1,),), (3, 3, 1, 1): ((3, 1),), (3, 3, 2, 1): (None,)})
        self.assertEqual(list(binders(MIXED, e)), [(2, 1), (3, 2, 1), (3, 3, 1, 1), (3, 3, 2, 1)])

    def test_copies_that_do_not_see_go_on(self):
        e = ("let", "x", ASK, own("odd", ["x"], [own("odd", ["x"], [name("x")])]))
        self.assertEqual(binders(MIXED, e), {(3, 3, 0, 3, 0, 1): ((1,), (3, 2, 0), (3, 3, 0, 2, 0))})
        e = own("odd", ["x"], [own("odd", ["x"], [("let", "x", name("x"), name("x"))])])
        self.assertEqual(binders(MIXED, e), {
            (3, 0, 3, 0, 2, 1): ((2, 0), (3, 0, 2, 0), None), (3, 0, 3, 0, 3, 1): ((3, 0, 3, 0, 1),),
        })

    def test_a_part_that_sees_ends_it(self):
        e = ("let", "x", ASK, own("twice", ["x"], [name("x"), name("x")]))
        self.assertEqual(binders(MIXED, e), {(3, 3, 0, 1): ((1,),), (3, 3, 1, 1): ((3, 2, 0),)})
        rows = [(["x"], [name("x")]), (["y"], [name("x")])]
        self.assertEqual(binders(MIXED, own("seq", [], [name("y")], rows)), {
            (3, 0, 1): ((4, 1, 0, 0),), (4, 0, 1, 0, 1): (None,), (4, 1, 1, 0, 1): ((4, 0, 0, 0),),
        })

    def test_reads_without_copies(self):
        e = own("drop", ["x"], [name("x"), ("let", "y", name("x"), name("y"))])
        self.assertEqual(binders(MIXED, e), {(3, 0, 1): (None,), (3, 1, 2, 1): (), (3, 1, 3, 1): ()})
        e = own("drop", ["y"], [ASK, own("odd", ["x"], [name("x")])])
        self.assertEqual(binders(MIXED, e), {(3, 1, 3, 0, 1): ()})
        self.assertIs(is_closed(MIXED, e), True)

    def test_names_of_templates_lead_nobody(self):
        e = ("let", "t", ASK, own("swap", [], [name("t"), name("t")]))
        self.assertEqual(binders(MIXED, e), {(3, 3, 0, 1): ((1,),), (3, 3, 1, 1): ((1,),)})

    def test_closed(self):
        for e, right in ((ASK, True), (name("x"), False), (("let", "x", ASK, name("x")), True), (("let", "x", name("x"), ASK), False),
                         (E47, True), (own("odd", ["x"], [name("x")]), False),
                         (("let", "x", ASK, own("odd", ["x"], [name("x")])), True),
                         (own("twin", ["x", "y"], [name("x"), name("y")]), True),
                         (own("twin", ["x", "y"], [name("y"), name("y")]), False)):
            self.assertIs(is_closed(BOOK47, e), right, e)

    def test_great_expressions(self):
        for made in (inside, side_by_side):
            told = chain(3, made)
            e = own("fk", ["x"], [own("fj", ["y"], [("plus", name("x"), name("y"))])])
            self.assertEqual(binders(told, e), {(3, 0, 3, 0, 1, 1): ((2, 0),), (3, 0, 3, 0, 2, 1): ((3, 0, 2, 0),)})
            self.assertIs(is_closed(told, e), True)
            self.assertIs(is_closed(told, ("pair", e, name("z"))), False)

    def test_no_rule_is_unclear(self):
        second = form("behind", 1, 2, (1, 2), P0, ("then", own("odd", [R0], [("here", 1)]), ("rest",)))
        told = book(ODD, *(one for one in (UNEVEN, TWO, SEQ, second)), TWIN)
        for one in ("odd", "uneven", "behind"):
            use, spot = no_rule(told, one)
            self.assertIs(is_unclear(told, one, (use, spot)), True)
            self.assertIs(is_expression(told, use), True)
            self.assertLessEqual(len(use[4]), 2)
            self.assertGreater(len(binders(told, use)[spot]), 1)
        for one in ("two", "seq", "twin"):
            self.assertIsNone(no_rule(told, one))

    def test_is_unclear(self):
        use = own("odd", ["x"], [("pair", name("x"), name("y"))])
        self.assertIs(is_unclear(BOOK47, "odd", (use, (3, 0, 1, 1))), True)
        for thing in [(use, (3, 0, 2, 1)), (use, (3, 0, 1)), (use, [3, 0, 1, 1]), [use, (3, 0, 1, 1)], (use,), (use, None),
                      (use, (3, False, 1, 1)), (use, (3, 0, True, 1)), (use, (3, 0, 1, 1), 1), (("show", use), (1, 3, 0, 1, 1)),
                      (1, ()), (None, (1,)), (own("odd", [], [name("x")]), (3, 0, 1)), (name("odd"), (1,)),
                      (("let", "odd", ASK, ASK), (1,)), (own("odd", ["x"], []), (2, 0)),
                      (own("odd", ["x"], [own("odd", ["y"], [name("x")])]), (3, 0, 3, 0, 1)),
                      (own("calm", [], [name("x")]), (3, 0, 1)), (own("odd", ["x"], [P0]), (3, 0, 1)),
                      (own("odd", ["x"], [("let", "x", ASK, name("x"))]), (3, 0, 3, 1)), (use, ([], 0))] + ODDITIES:
            self.assertIs(is_unclear(BOOK47, "odd", thing), False, thing)
        self.assertIs(is_unclear(BOOK47, "calm", (use, (3, 0, 1, 1))), False)
        self.assertIs(is_unclear(BOOK47, "calm", (own("calm", [], [name("x")]), (3, 0, 1))), False)

    def test_is_unclear_up_to_eight_rows(self):
        for many, right in ((0, False), (1, True), (2, True), (8, True), (9, False)):
            rows = [(["abcdefghi"[k]], [num(1)]) for k in range(many)]
            thing = (own("uneven", [], [name("a")], rows), (3, 0, 1))
            self.assertIs(is_unclear(book(UNEVEN), "uneven", thing), right, many)


if __name__ == "__main__":
    unittest.main()
