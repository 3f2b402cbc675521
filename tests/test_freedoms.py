"""Freedoms of parts, and equations under them."""

import itertools
import unittest

import naive
import naiveplays

from formrules.errors import BadBook, BadExpression, BadForm, BadLot, BadMany, BadUse, TooMany
from formrules.freedoms import freedoms, is_lot, keeps_within
from formrules.kinds import kind_of
from formrules.least import behaviour
from formrules.plains import common, plain
from formrules.running import run
from formrules.sides import exchanged
from formrules.surroundings import tells
from formrules.weakest import breaking_lots, breaks, greatest_lots

from calls import check_calls
from fixtures import ASK, B0, H0, MIXED, NO, ODDITIES, P0, P1, R0, YES, book, form, name, num, own
from kindly import Kindly
from test_surroundings import check_sides, sizes, small

V, F, S = "varies", "fails", "sets"
# The forms of [77].
KEPT = form("kept", 0, 1, None, ("let", "t", ("get", "c"), ("let", "r", P0, ("then", ("set", "c", name("t")), name("r")))))
BOOK77 = book(
    form("once", 0, 1, None, P0), form("twice", 0, 1, None, ("then", P0, P0)), form("again", 0, 1, None, ("catch", "w", P0, P0)),
    KEPT, cells=("c",))
H00, H10 = ("here", 0, 0), ("here", 1, 0)


def lot_of(place, *words):
    return tuple((place, word) for word in words)


class IsLot(unittest.TestCase):
    def test_calls(self):
        good = {"book": MIXED, "name": "seq", "many": 2, "thing": ()}
        bad = [("book", None, BadBook)] + [("name", one, BadForm) for one in ("none", None, 1)]
        bad += [("many", one, BadMany) for one in (-1, 9, True, None)]
        check_calls(self, is_lot, good, bad)

    def test_any_value(self):
        def told(thing):
            return is_lot(MIXED, "seq", 2, thing)

        lots = [(), lot_of(P0, V), lot_of(P0, V, F), lot_of(P0, V, S), lot_of(P0, V, F, S), lot_of(H00, V) + lot_of(H10, V, S)]
        lots += [lot_of(P0, V) + lot_of(H00, V, F, S) + lot_of(H10, V, F)]
        for lot in lots:
            self.assertIs(told(lot), True, lot)
            self.assertIs(told(list(lot)), False)
        for thing in ODDITIES[:10] + [
            lot_of(P0, F), lot_of(P0, S), lot_of(P0, F, S), lot_of(P0, F, V), lot_of(P0, V, S, F), lot_of(P0, V, V), lot_of(H00, V) + lot_of(P0, V),
            lot_of(H10, V) + lot_of(H00, V), lot_of(P1, V), lot_of(("here", 2, 0), V), lot_of(("here", False, 0), V), lot_of(("part", False), V),
            lot_of(("here", 0), V), lot_of(B0, V), ((P0, V, V),), (P0, V), ((P0, "asks"),), ((P0, None),), ((["part", 0], V),), ([P0, V],),
            lot_of(P0, V) + lot_of(H00, F), (None,), ((),), ((P0,),), lot_of(("row", 0, 0), V),
        ]:
            self.assertIs(told(thing), False, thing)
        self.assertIs(is_lot(MIXED, "seq", 0, lot_of(H00, V)), False)
        self.assertIs(is_lot(MIXED, "seq", 8, lot_of(("here", 7, 0), V)), True)


class Freedoms(unittest.TestCase):
    def test_calls(self):
        use = own("twice", ["x"], [num(1), name("x")])
        bad = [("book", None, BadBook)] + [("use", one, BadExpression) for one in ODDITIES if one != ASK]
        bad += [("use", one, BadUse) for one in (num(1), ("show", use), name("x"), ASK)]
        check_calls(self, freedoms, {"book": MIXED, "use": use}, bad)
        check_calls(self, keeps_within, {"book": MIXED, "name": "seq", "many": 1, "lot": lot_of(P0, V), "e": num(1)}, [
            ("book", None, BadBook), ("name", "none", BadForm), ("name", None, BadForm), ("many", 9, BadMany), ("many", True, BadMany),
            ("lot", lot_of(P0, F), BadLot), ("lot", [], BadLot), ("lot", None, BadLot), ("e", own("seq"), BadExpression), ("e", None, BadExpression),
        ])

    def test_settled(self):
        """Which parts come to the same each time."""
        def told(part, x="x"):
            return freedoms(MIXED, own("twice", [x], [num(1), part]))

        settled = [num(0), YES, name("y"), ("pair", num(1), name("z")), ("first", name("y")), ("second", ("pair", NO, ("first", name("y"))))]
        for part in settled:
            self.assertEqual(told(part), ())
            self.assertEqual(told(("pair", part, name("x"))), lot_of(P1, V))
        for part in [name("x"), ("first", name("x")), ("show", num(1)), ASK, ("get", "c"), ("let", "y", num(1), name("y")), ("plus", num(1), num(1)),
                     ("less", num(1), num(1)), ("if", YES, YES, YES), ("while", NO, num(1)), ("then", num(1), num(1)), ("pair", num(1), ASK), own("drop", ["y"], [num(1), num(1)])]:
            self.assertEqual(told(part), lot_of(P1, V))
        # Names of rows, too, are names of the use, for each of its parts.
        use = own("seq", [], [name("x")], [("x", [name("y")]), ("z", [name("z")])])
        self.assertEqual(freedoms(MIXED, use), lot_of(P0, V) + lot_of(H10, V))

    def test_what_stands_there(self):
        def told(part):
            return freedoms(MIXED, own("double", [], [part]))

        self.assertEqual(told(("fail", "w")), lot_of(P0, V, F))
        self.assertEqual(told(("set", "c", num(1))), lot_of(P0, V, S))
        self.assertEqual(told(("then", ("set", "c", num(1)), ("fail", "w"))), lot_of(P0, V, F, S))
        # Though the fault be caught there, or this be never done.
        self.assertEqual(told(("catch", "w", ("fail", "w"), num(1))), lot_of(P0, V, F))
        self.assertEqual(told(("catch", "w", num(1), num(1))), lot_of(P0, V))
        self.assertEqual(told(("if", NO, ("set", "d", num(1)), num(1))), lot_of(P0, V, S))
        self.assertEqual(told(("let", "x", ("fail", "w"), num(1))), lot_of(P0, V, F))

    def test_written_out(self):
        """It is told by what the part is written out as: rules count, parts that are dropped do not."""
        inner = form("inner", 0, 2, None, ("then", P0, ("set", "c", num(1))))
        outer = form("outer", 0, 2, None, own("inner", [], [P1, ("fail", "v")]))
        rows = form("rows", 0, 0, (0, 1), num(1), ("then", H0, ("then", ("fail", "v"), ("rest",))))
        told = book(inner, outer, rows, form("one", 0, 1, None, P0), cells=("c",))

        def freed(part):
            return freedoms(told, own("one", [], [part]))

        self.assertEqual(freed(own("inner", [], [num(1), ("fail", "v")])), lot_of(P0, V, S))
        self.assertEqual(freed(own("inner", [], [("fail", "v"), num(1)])), lot_of(P0, V, F, S))
        self.assertEqual(freed(own("outer", [], [("fail", "v"), num(1)])), lot_of(P0, V, S))
        self.assertEqual(freed(own("outer", [], [num(1), ("fail", "v")])), lot_of(P0, V, F, S))
        self.assertEqual(freed(own("rows")), lot_of(P0, V))
        self.assertEqual(freed(own("rows", [], [], [((), [num(1)])])), lot_of(P0, V, F))
        self.assertEqual(freed(own("one", [], [num(1)])), lot_of(P0, V))
        # Each place of the use, though it has no copy.
        self.assertEqual(freedoms(told, own("inner", [], [ASK, ("fail", "w")])), lot_of(P0, V) + lot_of(P1, V, F))

    def test_any_number_of_rows(self):
        use = own("seq", [], [num(1)], [("x", [num(1)])] + [("abcdefgh"[k], [ASK]) for k in range(8)])
        self.assertEqual(freedoms(MIXED, use), tuple((("here", k, 0), V) for k in range(1, 9)))

    def test_like_what_is_written_out(self):
        for seed in range(60):
            maker = Kindly(seed, cells=("c",))
            told = maker.book(3)
            maker.told, maker.binding, maker.leaves = told, {"r": None}, {}
            word = told[2][-1][1]
            use = maker.use(maker.forms[word][5], 3, {})
            if use is None:
                continue
            for place, part in places_of(use):
                found = [freedom for at, freedom in freedoms(told, use) if at == place]
                heads = heads_in(naive.Expander(told).outermost(part))
                self.assertEqual([word for word in found if word != V], [word for head, word in (("fail", F), ("set", S)) if head in heads])
                self.assertTrue(V in found or not found)

    def test_keeps_within(self):
        lot = lot_of(P0, V) + lot_of(H00, V, F)
        one, other = own("seq", [], [ASK], [("x", [("fail", "w")])]), own("seq", [], [ASK], [("x", [("set", "c", num(1))])])
        for e, kept in (
            (num(1), True), (one, True), (other, False), (("pair", one, one), True), (("pair", one, other), False), (own("seq", [], [num(1)], [("x", [one])]), True),
            (own("seq", [], [one], [("x", [one])]), False), (own("seq", [], [num(1)], [("x", [other])]), False), (own("double", [], [one]), True), (own("double", [], [other]), False),
            (own("seq", [], [ASK]), False), (("then", one, own("seq", [], [ASK])), False), (own("seq", [], [name("x")], [("x", [YES])]), True),
        ):
            self.assertIs(keeps_within(MIXED, "seq", 1, lot, e), kept, e)
        self.assertIs(keeps_within(MIXED, "seq", 0, (), own("seq", [], [num(1)])), True)


def places_of(use):
    found = [(("part", i), part) for i, part in enumerate(use[3])]
    return found + [(("here", k, i), part) for k, row in enumerate(use[4]) for i, part in enumerate(row[1])]


def heads_in(e):
    found = {e[0]}
    naive.mapped(e, lambda x: x, lambda part: found.update(heads_in(part)) or part)
    return found


class Breaks(unittest.TestCase):
    def test_errors(self):
        told = check_sides(self, breaks, ((),))
        check_sides(self, greatest_lots, ())
        check_sides(self, breaking_lots, ())
        # No lot of name: behind NoPlain, ahead of TooMany.
        for many in (0, 3, 4):
            for lot in (None, [], lot_of(P0, F), lot_of(H00, V) if many == 0 else lot_of(P1, V)):
                with self.assertRaises(BadLot):
                    breaks(told, "rows", "others", many, lot)
                with self.assertRaises(BadLot):
                    breaks(told, "rows", "greats", many, lot)
        good = {"book": told, "name": "rows", "other": "others", "many": 1}
        self.assertEqual(breaks(**good, lot=()), breaks(told, "rows", "others", 1, ()))
        for function in (greatest_lots, breaking_lots):
            self.assertEqual(function(**good), function(told, "rows", "others", 1))

    def test_too_many_places(self):
        rows = form("rows", 0, 3, (0, 1), P0, ("then", H0, ("rest",)))
        others = form("others", 0, 3, (0, 1), P0, ("then", H0, ("then", H0, ("rest",))))
        great = form("greats", 0, 3, (0, 1), *[MIXED[2][0][5][0]] * 0, P0, ("then", H0, ("rest",)))
        told = book(rows, others, great)
        for function in (greatest_lots, breaking_lots):
            function(told, "rows", "others", 1)
            for many, most in ((2, 4), (3, 4), (4, 3)):
                with self.assertRaises(TooMany) as caught:
                    function(told, "rows", "others", many)
                self.assertEqual(caught.exception.most, most)
        # breaks takes any number of places.
        self.assertIsNone(breaks(told, "rows", "others", 3, ()))
        self.assertIsNotNone(breaks(told, "rows", "others", 3, lot_of(H10, V)))

    def test_example(self):
        """[77], word for word."""
        for one, other, greatest, breaking in (
            ("once", "twice", ((),), (lot_of(P0, V),)),
            ("once", "again", (lot_of(P0, V, S),), (lot_of(P0, V, F),)),
            ("once", "kept", (lot_of(P0, V, F),), (lot_of(P0, V, S),)),
            ("again", "kept", (lot_of(P0, V),), (lot_of(P0, V, F), lot_of(P0, V, S))),
        ):
            for pair in ((one, other), (other, one)):
                self.assertEqual(greatest_lots(BOOK77, *pair, 0), greatest)
                self.assertEqual(breaking_lots(BOOK77, *pair, 0), breaking)

    def test_none_and_all(self):
        told = book(form("one", 0, 2, None, P0), form("other", 0, 2, None, ("show", P0)), form("like", 0, 2, None, ("let", "t", P0, name("t"))))
        self.assertEqual((greatest_lots(told, "one", "other", 0), breaking_lots(told, "one", "other", 0)), ((), ((),)))
        everything = lot_of(P0, V, F, S) + lot_of(P1, V, F, S)
        self.assertEqual((greatest_lots(told, "one", "like", 0), breaking_lots(told, "one", "like", 0)), ((everything,), ()))

    def test_order_of_lots(self):
        # Parts may change their places unless they both do something: fewer items first, then item by item.
        told = book(form("one", 0, 2, None, ("then", P0, P1)), form("other", 0, 2, None, ("let", "t", P1, ("then", P0, name("t")))), cells=("c",))
        found = breaking_lots(told, "one", "other", 0)
        self.assertEqual(found, (lot_of(P0, V) + lot_of(P1, V),))
        self.assertEqual(greatest_lots(told, "one", "other", 0), (lot_of(P0, V, F, S), lot_of(P1, V, F, S)))
        told = book(form("one", 0, 2, None, ("catch", "w", P0, ("then", P1, P0))), form("other", 0, 2, None, ("then", P0, P0)), cells=("c",))
        self.assertEqual(greatest_lots(told, "one", "other", 0), (lot_of(P1, V, F, S),))
        self.assertEqual(breaking_lots(told, "one", "other", 0), (lot_of(P0, V),))

    def test_settled_places(self):
        # A settled place comes to the same each time, but nobody knows to what; two of them may differ.
        told = book(
            form("one", 0, 2, None, ("if", P0, ("pair", P0, P1), ("pair", P1, P1))), form("other", 0, 2, None, ("pair", ("if", P0, YES, P1), P1)),
            form("third", 0, 2, None, ("pair", P1, P1)))
        self.assertIsNone(breaks(told, "one", "other", 0, ()))
        self.assertIsNotNone(breaks(told, "one", "third", 0, ()))

    def test_loops(self):
        # Loops or not, it is decided.
        told = book(form("one", 0, 2, None, ("while", P0, P1)), form("other", 0, 2, None, ("while", P0, ("then", P1, ("while", P0, P1)))))
        self.assertEqual(greatest_lots(told, "one", "other", 0), (lot_of(P1, V, F, S),))
        self.assertEqual(breaking_lots(told, "one", "other", 0), (lot_of(P0, V),))


class OpenRun(naiveplays.OpenRun):
    """An open run in which places do what is allowed; settled ones come to what says tells."""

    def __init__(self, *arguments, allowed, says):
        super().__init__(*arguments)
        self.allowed, self.says = allowed, says
        for place in says:
            for j in range(naiveplays.things(self.kinds[place])):
                self.new(("gave", place, j))

    def does(self, place, names):
        if V not in self.allowed[place]:
            return self.says[place]
        if S in self.allowed[place]:
            return super().does(place, names)
        cells, self.cells = self.cells, {}
        seen = tuple(names.get(("at", at)) for at in self.places)
        self.event(("does", place, seen, tuple(cells.values())))
        self.cells = cells
        if not self.answers:
            raise naiveplays.Stop(("open",))
        head, what = self.answers.pop(0)
        if head == "fails":
            raise naive.Fault(what)
        worth = naiveplays.outcomes(self.kinds[place], self.next)[what]
        for j in range(naiveplays.things(self.kinds[place])):
            self.new(("gave", place, j))
        return worth


def plays_apart(told, one, other, many, both, lot, depth):
    """Tell whether plays are apart under a lot with some few answers, by trying all of them."""
    kinds = dict(both[2])
    allowed = {place: [word for at, word in lot if at == place] for place in kinds}
    settled = [place for place in kinds if V not in allowed[place]]
    for ks in itertools.product(*[range(len(naiveplays.outcomes(kinds[place]))) for place in settled]):
        says, first = {}, len(told[1])
        for place, k in zip(settled, ks):
            says[place] = naiveplays.outcomes(kinds[place], first)[k]
            first += naiveplays.things(kinds[place])
        todo = [[]]
        while todo:
            answers = todo.pop()
            plays = [OpenRun(told, word, many, both, answers, 12, allowed=allowed, says=says).showing() for word in (one, other)]
            if plays[0] != plays[1]:
                return True
            events, end = plays[0]
            if end == ("open",) and len(answers) < depth:
                place = events[-1][1]
                choices = [("ends", k) for k in range(len(naiveplays.outcomes(kinds[place])))]
                todo += [answers + [choice] for choice in choices + [("fails", w) for w in ("v", "w") if F in allowed[place]]]
    return False


class SmallBooks(unittest.TestCase):
    def test_lots(self):
        """A lot holds exactly if it lies in a greatest one, and exactly if no breaking one lies in it; what breaks tells is right."""
        tried = {True: 0, False: 0}
        for seed in range(48):
            maker = Kindly(seed, cells=[(), ("c",)][seed % 2])
            told = alike_but_for_some(maker) if seed % 4 else maker.with_form(maker.book(1, 3), "xa", 3, like="forma")
            one, other = [made[1] for made in told[2]]
            many = maker.random.randint(0, 1) if told[2][-1][4] else 0
            both = common(plain(told, one, many), plain(told, other, many))
            places = [place for place, _ in both[2]]
            greatest, breaking = greatest_lots(told, one, other, many), breaking_lots(told, one, other, many)
            self.assertEqual((greatest, breaking), (greatest_lots(told, other, one, many), breaking_lots(told, other, one, many)))
            self.assertEqual(list(greatest), sorted(greatest, key=lot_key))
            self.assertEqual(list(breaking), sorted(breaking, key=lot_key))
            everything = tuple((place, word) for place in places for word in (V, F, S))
            self.assertEqual(breaking == (), behaviour(told, one, many, both) == behaviour(told, other, many, both))
            self.assertEqual(breaking == (), greatest == (everything,))
            lots = [()]
            for place in places:
                lots = [lot + lot_of(place, *more) for lot in lots for more in ((), (V,), (V, F), (V, S), (V, F, S))]
            for lot in maker.random.sample(lots, min(12, len(lots))) + list(greatest)[:3] + list(breaking)[:3]:
                self.assertIs(is_lot(told, one, many, lot), True)
                found = breaks(told, one, other, many, lot)
                same = any(set(lot) <= set(its) for its in greatest)
                self.assertEqual((found is None, not any(set(its) <= set(lot) for its in breaking)), (same, same))
                tried[same] += 1
                if same:
                    self.assertIs(plays_apart(told, one, other, many, both, lot, 3), False)
                else:
                    self.assertIs(keeps_within(told, one, many, lot, found[0]), True)
                    if small(told, (one, other), many, both):
                        self.assertIs(tells(told, one, other, many, found), True)
                        nodes, depth = sizes(found[0])
                        self.assertLessEqual((nodes <= 400, depth <= 60, len(found[1]) <= 200), (True, True, True))
        self.assertGreater(min(tried.values()), 60)

    def test_programs_within(self):
        """Programs within a lot under which sides are the same show the same."""
        tried = 0
        for seed in range(120):
            maker = Kindly(seed, cells=("c",), rows=False)
            told = alike_but_for_some(maker)
            one, other = [made[1] for made in told[2]]
            for lot in greatest_lots(told, one, other, 0):
                for _ in range(6):
                    e = program(maker, told, one)
                    if keeps_within(told, one, 0, lot, e) and None not in (kind_of(told, e), kind_of(told, exchanged(told, one, other, e))):
                        tried += 1
                        for _ in range(3):
                            inputs = [maker.random.randint(0, 7) for _ in range(12)]
                            self.assertEqual(run(told, e, inputs, 60), run(told, exchanged(told, one, other, e), inputs, 60), (seed, lot, e))
        self.assertGreater(tried, 150)

    def test_one_behind_the_other(self):
        """What is the same under a lot for two pairs is so for the third one, and the other way about."""
        forms = [form("fa", 0, 2, None, ("then", P0, P1)), form("fb", 0, 2, None, ("let", "t", P1, ("then", P0, name("t")))),
                 form("fc", 0, 2, None, ("then", P0, ("then", P0, P1))), form("fd", 0, 2, None, ("catch", "w", ("then", P0, P1), ("then", P0, P1)))]
        told = book(*forms, cells=("c",))
        words = [made[1] for made in forms]
        lots = [lot_of(P0, *some) + lot_of(P1, *more) for some in ((), (V,), (V, F), (V, F, S)) for more in ((), (V,), (V, S), (V, F, S))]
        for lot in lots:
            same = {pair: breaks(told, *pair, 0, lot) is None for pair in itertools.permutations(words, 2)}
            for one, other, third in itertools.permutations(words, 3):
                self.assertEqual(same[(one, other)], same[(other, one)])
                self.assertTrue(same[(one, third)] or not (same[(one, other)] and same[(other, third)]))


def alike_but_for_some(maker):
    """Give a book of two forms, the second one doing some things of the first one once more."""
    told = maker.book(1, 3)
    one = told[2][0]

    def doubled(node):
        roll = maker.random.random()
        inner = node if node[0] in ("part", "here", "rest") else naive.mapped(node, lambda x: x, doubled)
        if roll > 0.3:
            return inner
        return maker.pick([("then", inner, inner), ("catch", "w", inner, inner), ("let", "s", inner, ("then", inner, ("name", "s"))), ("then", ("ask",), inner)][:4 if roll < 0.05 else 3])

    other = one[:1] + ("xa",) + one[2:5] + (tuple(doubled(rule) for rule in one[5]),)
    maker.forms["xa"] = maker.forms[one[1]]
    return ("book", told[1], (one, other))


def lot_key(lot):
    return len(lot), [((len(place), place[1:]), (V, F, S).index(word)) for place, word in lot]


def program(maker, told, word):
    """Give a program around one use of a form, whose parts are settled, or do some few things."""
    kinds = maker.forms[word]
    parts = []
    for i in range(kinds[1]):
        kind = kinds[4][("part", i)]
        maker.told, maker.binding, maker.leaves = ("book", told[1], ()), {"r": None}, {}
        parts.append(maker.leaf(kind, {}) if maker.random.random() < 0.5 else maker.core(kind, 2, {}, told[1]))
    use = own(word, "pqs"[:kinds[0]], parts)
    return maker.pick([use, ("catch", "w", ("show", use), use), ("then", ("set", "c", ASK), ("pair", use, ("get", "c")))])


if __name__ == "__main__":
    unittest.main()
