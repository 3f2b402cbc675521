import unittest

from formrules.errors import BadScheme, TooMany
from formrules.schemes import fits, scheme
from formrules.weaker import is_parted, parted, weaker

from calls import check_calls
from fixtures import ASK, B0, B1, MIXED, ODDITIES, P0, P1, YES, book, form, name, num

N, T = ("number",), ("truth",)
A0, A1, A2 = ("any", 0), ("any", 1), ("any", 2)
HERE = ("here", 0, 0)


def told(*seats, kind=N):
    return ("scheme", tuple((place, tuple(seen), its) for place, seen, its in seats), kind)


class Weaker(unittest.TestCase):
    def test_calls(self):
        two = told((P0, [], N), (P0, [], T))
        good = {"one": two, "other": told((P0, [], N))}
        bad = [(at, thing, BadScheme) for at in ("one", "other") for thing in (None, N, ("scheme", [], N))]
        check_calls(self, weaker, good, bad + [("other", two, TooMany)])
        check_calls(self, parted, good, bad + [("other", two, TooMany)])
        check_calls(self, is_parted, {**good, "thing": 1}, bad + [("other", two, TooMany)])
        with self.assertRaises(TooMany) as caught:
            weaker(two, two)
        self.assertEqual(caught.exception.most, 1)

    def check(self, one, other, right):
        self.assertIs(weaker(one, other), right, (one, other))
        found = parted(one, other)
        if right:
            self.assertIsNone(found)
        else:
            names, parts, signature = found
            self.assertIs(fits(other, names, parts, signature), True)
            self.assertIs(fits(one, names, parts, signature), False)
            self.assertIs(is_parted(one, other, found), True)
            placed = [place for place, _ in parts]
            self.assertTrue(all(place in placed for place, _, _ in one[1] + other[1]))
            self.assertEqual(parted(one, other), found)

    def test_kinds_of_the_whole(self):
        for one, other, right in ((N, N, True), (N, T, False), (A0, N, True), (N, A0, False), (A0, A5, True),
                                  (("pair", A0, A1), ("pair", A1, A1), True), (("pair", A0, A0), ("pair", A0, A1), False),
                                  (A0, ("pair", A0, A1), True), (("pair", A0, A1), A0, False)):
            self.check(told(kind=one), told(kind=other), right)

    def test_kinds_at_seats(self):
        self.check(told((P0, [], A0), kind=A0), told((P0, [], N)), True)
        self.check(told((P0, [], A0), kind=A0), told((P0, [], T)), False)
        self.check(told((P0, [], A0), (P1, [], A1)), told((P0, [], A0), (P1, [], A0)), True)
        self.check(told((P0, [], A0), (P1, [], A0)), told((P0, [], A0), (P1, [], A1)), False)
        self.check(told((P0, [], N)), told((P0, [], A0)), False)
        # one may have more seats at a place, and fewer places.
        self.check(told((P0, [], A0), (P0, [], A1), (P0, [], N)), told((P0, [], N)), True)
        self.check(told((P0, [], N), (P0, [], T)), told((P0, [], N)), False)
        self.check(told(), told((P0, [], N)), True)
        self.check(told((P0, [], A0)), told(), False)
        self.check(told((HERE, [], A0)), told((P0, [], A0)), False)

    def test_what_is_seen(self):
        sees = [(B0, N)]
        self.check(told((P0, sees, N)), told((P0, sees, N)), True)
        self.check(told((P0, [(B0, A0)], N)), told((P0, sees, N)), True)
        self.check(told((P0, [(B0, T)], N)), told((P0, sees, N)), False)
        self.check(told((P0, [], N)), told((P0, sees, N)), False)
        # What other does not see is of one kind of its own, for each name place.
        self.check(told((P0, sees, N)), told((P0, [], N)), False)
        self.check(told((P0, [(B0, A0)], N)), told((P0, [], N)), True)
        self.check(told((P0, [(B0, A0)], A0), kind=A0), told((P0, [], N)), False)
        self.check(told((P0, [(B0, A0), (B1, A0)], N)), told((P0, [], N)), False)
        self.check(told((P0, [(B0, A0), (B1, A1)], N)), told((P0, [], N)), True)
        self.check(told((P0, [(B0, A0)], N), (P1, [(B0, A0)], N)), told((P0, [], N), (P1, [], N)), True)
        self.check(told((P0, [(B0, A0)], N), (P1, [(B1, A0)], N)), told((P0, [], N), (P1, [], N)), False)
        self.check(told((P0, [(B0, A0)], N), (P1, [(B0, A0)], N)), told((P0, [(B0, A2)], N), (P1, [], N)), False)
        self.check(told((P0, [(B0, A0)], N), (P1, [(B0, A1)], N)), told((P0, [(B0, A2)], N), (P1, [], N)), True)

    def test_unknowns_of_other_are_not_filled(self):
        self.check(told((P0, [], ("pair", A0, A1))), told((P0, [], A0)), False)
        self.check(told((P0, [(B0, A0)], A0), kind=A1), told((P0, [(B0, A1)], A1), kind=A0), True)
        self.check(told((P0, [(B0, A0)], A0), kind=A0), told((P0, [(B0, A1)], A1), kind=A0), False)

    def test_of_forms(self):
        plain = form("plain", 1, 2, None, ("let", B0, P0, P1))
        tested = form("tested", 1, 2, None, ("let", B0, P0, ("if", name(B0), P1, P1)))
        twice = form("twice", 1, 2, None, ("let", B0, P0, ("then", P1, P1)))
        schemes = {one[1]: scheme(book(plain, tested, twice), one[1], 0) for one in (plain, tested, twice)}
        self.check(schemes["plain"], schemes["tested"], True)
        self.check(schemes["tested"], schemes["plain"], False)
        self.check(schemes["twice"], schemes["plain"], True)
        self.check(schemes["plain"], schemes["twice"], True)
        self.check(scheme(MIXED, "double", 0), told((P0, [], A0), kind=("pair", A0, A0)), True)

    def test_is_parted(self):
        one, other = told((P0, [(B0, N)], A0), (P0, [], A1), kind=A1), told((P0, [], A0), kind=A0)
        names, parts, signature = ((B0, "x"),), ((P0, name("x")),), ((("x", A0),), A0)
        self.assertIs(is_parted(one, other, (names, parts, signature)), False)
        parts = ((P0, ("if", name("x"), name("x"), name("x"))),)
        signature = ((("x", T),), T)
        self.assertIs(is_parted(one, other, (names, parts, signature)), True)
        self.assertIs(is_parted(one, other, (names, parts + ((P1, ("first", num(1))),), signature)), True)
        for thing in ODDITIES + [
            (names, parts), [names, parts, signature], (list(names), parts, signature), (names, list(parts), signature),
            (names, parts, list(signature)), (names, (), signature), (names, parts, ((("x", N),), T)), (names, parts, ((), T)),
            ((), parts, signature), (names, parts, ((("x", T),), N)), (((P0, "x"),), parts, signature), (names, parts, signature, 1),
        ]:
            self.assertIs(is_parted(one, other, thing), False, thing)
        # A part for each place that has a seat in one or in other.
        one, other = told((P1, [], A0), (P0, [], N)), told((P0, [], A0))
        self.assertIs(is_parted(one, other, ((), ((P0, YES),), ((), N))), False)
        self.assertIs(is_parted(one, other, ((), ((P0, YES), (P1, ASK)), ((), N))), True)
        self.assertIs(is_parted(told(kind=T), told((P0, [], N)), ((), (), ((), N))), False)
        self.assertIs(is_parted(told(kind=T), told((P0, [], N)), ((), ((P0, ASK),), ((), N))), True)


A5 = ("any", 5)


if __name__ == "__main__":
    unittest.main()
