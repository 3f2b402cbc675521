import unittest

from formrules.terms import is_kind, is_worth

from fixtures import ODDITIES


class Terms(unittest.TestCase):
    def test_worths(self):
        for n in range(8):
            self.assertIs(is_worth(("number", n)), True)
        deep = ("truth", "no")
        for _ in range(50):
            deep = ("pair", ("number", 1), deep)
        for thing in (("truth", "yes"), ("truth", "no"), ("pair", ("number", 0), ("truth", "no")), deep):
            self.assertIs(is_worth(thing), True)

    def test_no_worths(self):
        for thing in ODDITIES + [
            ("number",), ("truth",), ("any", 0), ["number", 1], ("pair", ("number", 1)), ("pair", ("number", 1), ["number", 1]),
            ("pair", ("number", 1), ("number", True)), ("number", False), ("truth", ["yes"]), ("pair", 1, 2),
            ("pair", ("number", 1), ("number", 2), ("number", 3)), ("name", "x"), ("truth", "yes", 1),
        ]:
            self.assertIs(is_worth(thing), False, thing)
        self.assertIs(is_worth(thing=("number", 7)), True)

    def test_kinds(self):
        deep = ("any", 999999999)
        for _ in range(50):
            deep = ("pair", deep, ("truth",))
        for thing in (("number",), ("truth",), ("any", 0), ("any", 12), ("pair", ("number",), ("any", 0)), deep):
            self.assertIs(is_kind(thing), True)
        self.assertIs(is_kind(thing=("truth",)), True)

    def test_no_kinds(self):
        for thing in ODDITIES + [
            ("number", 1), ("truth", "yes"), ["number"], ("any", "x"), ("any", 0, 0), ("pair", ("number",)),
            ("pair", ("number",), ["truth"]), ("pair", ("number",), ("any", True)), "number", ("any", False),
        ]:
            self.assertIs(is_kind(thing), False, thing)


if __name__ == "__main__":
    unittest.main()
