import unittest

import naive

from formrules.books import is_core
from formrules.errors import BadKind, BadSignature, BadWorth
from formrules.kinds import signature_of
from formrules.shapes import nodes_of
from formrules.signatures import expression_of, is_of, is_signature

from calls import check_calls
from fixtures import ODDITIES, book, num

N, T = ("number",), ("truth",)


def any_(i):
    return ("any", i)


def pair(one, other):
    return ("pair", one, other)


class Signatures(unittest.TestCase):
    def test_signatures(self):
        for thing in (((), N), ((("x", N),), any_(5)), ((("a", N), ("aa", T), ("b", pair(N, any_(0)))), pair(any_(0), any_(9)))):
            self.assertIs(is_signature(thing=thing), True)

    def test_no_signatures(self):
        for thing in ODDITIES + [
            ((), 1), ((),), ([], N), [(), N], ((), N, N), ((("x", N), ("x", N)), N), ((("y", N), ("x", N)), N),
            ((("if", N),), N), ((("X", N),), N), (((1, N),), N), ((["x", N],), N), ((("x", N, N),), N), ((("x",),), N),
            ((("x", 1),), N), ((("x", any_(True)),), N), ({"x": N}, N), ("x", N), (N, N),
        ]:
            self.assertIs(is_signature(thing), False, thing)


class IsOf(unittest.TestCase):
    def test_calls(self):
        bad = [("worth", thing, BadWorth) for thing in (None, 1, ("number", 8), ("number", True), N)]
        bad += [("kind", thing, BadKind) for thing in (None, ("number", 1), ["number"], any_(-1))]
        check_calls(self, is_of, {"worth": num(1), "kind": N}, bad)

    def test_fillings(self):
        one, yes = num(1), ("truth", "yes")
        for worth, kind, right in (
            (one, N, True), (yes, N, False), (one, T, False), (yes, T, True), (one, any_(3), True),
            (("pair", one, yes), pair(N, T), True), (("pair", one, yes), pair(T, N), False), (("pair", one, yes), N, False),
            (one, pair(any_(0), any_(1)), False), (("pair", one, yes), any_(0), True), (("pair", one, yes), pair(any_(0), any_(1)), True),
            (("pair", one, yes), pair(any_(0), any_(0)), False), (("pair", one, num(2)), pair(any_(0), any_(0)), True),
            (("pair", ("pair", one, yes), one), pair(pair(any_(0), any_(1)), any_(0)), True),
            (("pair", ("pair", one, yes), yes), pair(pair(any_(0), any_(1)), any_(0)), False),
            (("pair", ("pair", one, yes), ("pair", num(7), yes)), pair(any_(2), any_(2)), True),
            (("pair", ("pair", one, yes), ("pair", yes, yes)), pair(any_(2), any_(2)), False),
        ):
            self.assertIs(is_of(worth, kind), right, (worth, kind))


class ExpressionOf(unittest.TestCase):
    def test_calls(self):
        bad = [("signature", thing, BadSignature) for thing in (None, N, ((), 1), ((("x", N), ("x", N)), N))]
        check_calls(self, expression_of, {"signature": ((("x", N),), any_(0))}, bad)

    def check(self, signature):
        e = expression_of(signature)
        self.assertIs(is_core(e), True)
        self.assertEqual(expression_of(signature), e)
        kinds = naive.told_kinds([kind for _, kind in signature[0]] + [signature[1]])
        wanted = (tuple((x, kind) for (x, _), kind in zip(signature[0], kinds)), kinds[-1])
        self.assertEqual(naive.signature(e), wanted)
        return e

    def test_each_signature_is_the_weakest_one_of_some_expression(self):
        kinds = [N, T, any_(0), any_(1), pair(any_(0), any_(0)), pair(N, any_(1)), pair(pair(any_(1), T), any_(0))]
        for kind in kinds:
            self.check(((), kind))
            for one in kinds:
                self.check(((("a", one),), kind))
                for other in kinds:
                    self.check(((("w", one), ("x", other)), kind))

    def test_great_signatures(self):
        e = self.check(((), pair(any_(7), pair(any_(3), pair(any_(7), any_(999999999))))))
        self.assertLess(len(nodes_of(e)), 15)
        names = tuple(("n" + a + b, any_(k)) for k, (a, b) in enumerate((a, b) for a in "abcdefgh" for b in "abcdefgh"))
        halves = [pair(any_(i), any_(i + 1)) for i in range(128)]
        while len(halves) > 1:
            halves = [pair(one, other) for one, other in zip(halves[::2], halves[1::2])]
        for signature in (((), halves[0]), (names, halves[0])):
            e = expression_of(signature)
            self.assertIs(is_core(e), True)
            self.assertLess(max(len(path) for path, _ in nodes_of(e)), 60)
            self.assertLess(len(nodes_of(e)), 1900)
        small = (names[:20], halves[0][1][1])
        e = expression_of(small)
        self.assertEqual(signature_of(book(), e), naive.signature(e))
        self.check(small)


if __name__ == "__main__":
    unittest.main()
