import unittest

from formrules.errors import BadBook, BadExpression, BadInputs, BadMost, TooMany
from formrules.running import run, steps

from calls import check_calls
from fixtures import ASK, BOOK32, MIXED, NO, P0, P1, YES, book, form, name, num, own, sized

CELLS = book(cells=("c", "d"))
COUNT = ("set", "c", ("plus", ("get", "c"), num(1)))


def shown(*numbers):
    return tuple([("shown", num(n)) for n in numbers])


class Running(unittest.TestCase):
    def run_of(self, e, inputs=(), most=200, where=CELLS):
        """Give the showing and the steps."""
        return run(where, e, list(inputs), most) + (steps(where, e, list(inputs), most),)

    def test_calls(self):
        bad = [("book", ("book",), BadBook), ("e", own("none"), BadExpression)]
        bad += [("inputs", thing, BadInputs) for thing in (None, 1, "12", [8], [-1], [True], ["1"], [1, None], {}, {1: 2})]
        bad += [("most", thing, BadMost) for thing in (None, -1, 201, True, "1")]
        good = {"book": BOOK32, "e": own("swap", [], [ASK, ASK]), "inputs": [0, 7], "most": 200}
        check_calls(self, run, good, bad)
        check_calls(self, steps, good, bad)
        for function in (run, steps):
            self.assertEqual(function(BOOK32, ASK, (1,), 0), function(BOOK32, ASK, [1], 0))

    def test_too_many_comes_behind_all_others(self):
        double = book(form("double", 0, 1, None, ("pair", P0, P0)))
        great = own("double", [], [own("double", [], [sized(300)])])
        for function in (run, steps):
            with self.assertRaises(TooMany) as caught:
                function(double, great, [], 1)
            self.assertEqual(caught.exception.most, 1000)
            with self.assertRaises(BadInputs):
                function(double, great, [9], 1)
            with self.assertRaises(BadMost):
                function(double, great, [], 201)

    def test_example(self):
        e = own("twice", ["x"], [ASK, ("show", name("x"))])
        self.assertEqual(run(BOOK32, e, [3], 200), ((("asked", 3),) + shown(3, 3), ("ends", num(3))))

    def test_atoms(self):
        self.assertEqual(self.run_of(num(7)), ((), ("ends", num(7)), 1))
        self.assertEqual(self.run_of(NO), ((), ("ends", NO), 1))
        self.assertEqual(self.run_of(("get", "c")), ((), ("ends", num(0)), 1))
        self.assertEqual(self.run_of(name("x")), ((), ("stuck",), 1))
        self.assertEqual(self.run_of(("fail", "w")), ((), ("fails", "w"), 1))
        self.assertEqual(self.run_of(ASK, [5]), ((("asked", 5),), ("ends", num(5)), 1))

    def test_lets_and_pairs(self):
        e = ("let", "x", num(1), ("pair", ("let", "x", num(2), name("x")), name("x")))
        self.assertEqual(self.run_of(e), ((), ("ends", ("pair", num(2), num(1))), 7))
        self.assertEqual(self.run_of(("first", ("pair", num(1), YES))), ((), ("ends", num(1)), 4))
        self.assertEqual(self.run_of(("second", ("pair", num(1), YES))), ((), ("ends", YES), 4))
        # The name is not let in the first part, and not behind the let.
        self.assertEqual(self.run_of(("let", "x", name("x"), num(1)))[1:], (("stuck",), 2))
        self.assertEqual(self.run_of(("then", ("let", "x", num(1), num(2)), name("x")))[1], ("stuck",))

    def test_numbers(self):
        self.assertEqual(self.run_of(("plus", num(5), num(6)))[1:], (("ends", num(3)), 3))
        self.assertEqual(self.run_of(("less", num(5), num(6)))[1:], (("ends", YES), 3))
        self.assertEqual(self.run_of(("less", num(6), num(6)))[1], ("ends", NO))
        self.assertEqual(self.run_of(("less", num(7), num(6)))[1], ("ends", NO))

    def test_stuck(self):
        for e, count in ((("first", num(1)), 2), (("second", YES), 2), (("if", num(1), num(1), num(1)), 2),
                         (("while", num(1), num(1)), 2), (("set", "c", YES), 2), (("set", "c", ("pair", num(1), num(1))), 4)):
            self.assertEqual(self.run_of(e), ((), ("stuck",), count), e)
        # Both parts are worked out ahead of being looked at.
        for head in ("plus", "less"):
            for e in ((head, YES, ("show", num(1))), (head, num(1), ("show", YES))):
                self.assertEqual(self.run_of(e)[0], (("shown", e[2][1]),))
                self.assertEqual(self.run_of(e)[1:], (("stuck",), 4))
        # A catch does not catch it.
        self.assertEqual(self.run_of(("catch", "w", ("first", num(1)), num(2)))[1], ("stuck",))

    def test_choices(self):
        e = ("if", YES, ("show", num(1)), ("show", num(2)))
        self.assertEqual(self.run_of(e), (shown(1), ("ends", num(1)), 4))
        e = ("if", NO, ("show", num(1)), ("show", num(2)))
        self.assertEqual(self.run_of(e), (shown(2), ("ends", num(2)), 4))

    def test_cells(self):
        e = ("then", ("set", "d", num(3)), ("pair", ("get", "c"), ("get", "d")))
        self.assertEqual(self.run_of(e)[1:], (("ends", ("pair", num(0), num(3))), 6))
        self.assertEqual(self.run_of(("set", "c", num(3)))[1:], (("ends", num(3)), 2))

    def test_while(self):
        e = ("then", ("while", ("less", ("get", "c"), num(2)), ("show", COUNT)), ("get", "c"))
        # then, three tests of four nodes with the while, two turns of five, and get.
        self.assertEqual(self.run_of(e), (shown(1, 2), ("ends", num(2)), 1 + 3 * 4 + 2 * 5 + 1))
        self.assertEqual(self.run_of(("while", NO, num(3)))[1:], (("ends", num(0)), 2))

    def test_order_of_events(self):
        e = ("pair", ("show", num(1)), ("plus", ("show", num(2)), ("let", "x", ("show", num(3)), ("show", num(4)))))
        self.assertEqual(self.run_of(e)[0], shown(1, 2, 3, 4))
        self.assertEqual(self.run_of(("show", ("show", ("pair", YES, num(1)))))[0], (("shown", ("pair", YES, num(1))),) * 2)

    def test_faults(self):
        self.assertEqual(self.run_of(("catch", "w", num(1), num(2)))[1:], (("ends", num(1)), 2))
        e = ("catch", "w", ("pair", ("show", num(1)), ("then", ("fail", "w"), ("show", num(2)))), num(3))
        self.assertEqual(self.run_of(e), (shown(1), ("ends", num(3)), 7))
        e = ("catch", "v", ("catch", "w", ("fail", "v"), num(1)), num(2))
        self.assertEqual(self.run_of(e)[1:], (("ends", num(2)), 4))
        self.assertEqual(self.run_of(("catch", "v", ("fail", "w"), num(2)))[1], ("fails", "w"))
        # A fault in what is done in its place is not caught by this catch, but by one around it.
        self.assertEqual(self.run_of(("catch", "w", ("fail", "w"), ("fail", "w")))[1], ("fails", "w"))
        e = ("catch", "w", ("catch", "w", ("fail", "w"), ("fail", "w")), num(5))
        self.assertEqual(self.run_of(e)[1], ("ends", num(5)))
        # Names and worths are those of the catch, cells are as the fault left them.
        e = ("let", "x", num(1), ("catch", "w", ("let", "x", COUNT, ("pair", num(9 - 2), ("fail", "w"))), ("pair", name("x"), ("get", "c"))))
        self.assertEqual(self.run_of(("plus", num(1), ("first", e)))[1], ("ends", num(2)))
        self.assertEqual(self.run_of(e)[1], ("ends", ("pair", num(1), num(1))))
        # A fault ends a while.
        e = ("catch", "w", ("while", YES, ("if", ("less", COUNT, num(3)), num(0), ("fail", "w"))), ("get", "c"))
        self.assertEqual(self.run_of(e)[1], ("ends", num(3)))

    def test_waits(self):
        self.assertEqual(self.run_of(("then", ("show", ASK), ASK), [1]), ((("asked", 1),) + shown(1), ("waits",), 4))
        # No event would come at this ask, so there are not too many.
        self.assertEqual(self.run_of(ASK, [], 0), ((), ("waits",), 1))

    def test_more(self):
        e = ("then", ("show", num(1)), ("then", ASK, ("show", num(2))))
        self.assertEqual(self.run_of(e, [5], 0), ((), ("more",), 3))
        self.assertEqual(self.run_of(e, [5], 1), (shown(1), ("more",), 5))
        self.assertEqual(self.run_of(e, [5], 2), (shown(1) + (("asked", 5),), ("more",), 7))
        self.assertEqual(self.run_of(e, [5], 3), (shown(1) + (("asked", 5),) + shown(2), ("ends", num(2)), 7))

    def test_never(self):
        for e in (("while", YES, num(1)), ("while", YES, COUNT), ("while", ("less", COUNT, num(8 - 1)), ("set", "c", num(0))),
                  ("while", YES, ("while", ("less", COUNT, num(5)), num(1))), ("while", ("while", YES, num(1)), num(1)),
                  ("while", YES, ("catch", "w", ("then", COUNT, ("fail", "w")), num(1)))):
            self.assertEqual(self.run_of(e), ((), ("never",), None), e)
        # What came ahead of it is told, also where no more event may come.
        e = ("then", ("show", num(1)), ("while", YES, num(1)))
        self.assertEqual(self.run_of(e, [], 1), (shown(1), ("never",), None))
        self.assertEqual(self.run_of(e, [], 0), ((), ("more",), 3))
        # As long as events come it goes on.
        e = ("while", YES, ("show", num(1)))
        self.assertEqual(self.run_of(e, [], 3)[:2], (shown(1, 1, 1), ("more",)))
        # Cells that change for long, and then stay.
        e = ("while", YES, ("if", ("less", COUNT, num(1)), ("set", "d", ("plus", ("get", "d"), num(1))), num(1)))
        self.assertEqual(self.run_of(e), ((), ("never",), None))
        e = ("while", ("less", ("get", "d"), num(7)), e[2])
        self.assertEqual(self.run_of(e)[1], ("ends", num(0)))

    def test_a_while_within_begins_anew(self):
        inner = ("while", ("less", ("get", "d"), num(3)), ("set", "d", ("plus", ("get", "d"), num(1))))
        e = ("while", ("less", COUNT, num(4)), ("then", ("set", "d", num(0)), inner))
        self.assertEqual(self.run_of(e)[1], ("ends", num(0)))

    def test_rules_are_run(self):
        e = own("both", [], [("less", ASK, num(3)), ("show", NO)])
        self.assertEqual(run(BOOK32, e, [2], 9), ((("asked", 2), ("shown", NO)), ("ends", NO)))
        self.assertEqual(run(BOOK32, e, [3], 9), ((("asked", 3),), ("ends", NO)))
        self.assertEqual(steps(BOOK32, e, [3], 9), 5)
        rows = [(["x"], [ASK]), (["y"], [("plus", name("x"), num(1))])]
        e = own("seq", [], [("show", ("plus", name("x"), name("y")))], rows)
        self.assertEqual(run(MIXED, e, [2], 9), ((("asked", 2),) + shown(5), ("ends", num(5))))


if __name__ == "__main__":
    unittest.main()
