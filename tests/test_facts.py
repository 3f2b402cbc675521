"""What the document calls facts and hearts, tried on small books that seeds make."""

import unittest

import naive
import naivekinds

from formrules.books import is_book, is_core, is_expression
from formrules.clashes import clash, is_clash
from formrules.closed import is_closed
from formrules.errors import NotClear, TooMany
from formrules.fewnames import fewest_names
from formrules.kindings import is_kinding, kinding
from formrules.kinds import signature_of
from formrules.knots import barred, knots, moves, renamed
from formrules.leading import binders, is_unclear, no_rule
from formrules.likeness import first_unlike, same_but_names
from formrules.naming import alike
from formrules.running import run, steps
from formrules.schemes import fits, scheme
from formrules.sights import has_rule, sights
from formrules.signatures import expression_of, is_of, is_signature
from formrules.spots import spots
from formrules.weaker import is_parted, parted, weaker
from formrules.writing import once, written
from formrules.words import is_name

from small import KINDLY, Maker

SEEDS = range(60)
FRESH = [word for word in [a for a in "abcdefghijklmnopqrstuvwxyz"] + ["a" + b for b in "abcdefghijklmnopqrstuvwxyz"] if is_name(word)]


def small_books(heads=None):
    """Give makers with books."""
    for seed in SEEDS:
        maker = Maker(seed, heads=heads)
        yield maker, maker.book(maker.random.randint(1, 4))


def small_expressions(many, depth, heads=None):
    """Give makers with books and expressions, and what these are written out to."""
    for maker, book in small_books(heads):
        for _ in range(many):
            e = maker.expression(book, maker.random.randint(2, depth))
            try:
                yield maker, book, e, written(book, e)
            except TooMany:
                pass


def words_of(e):
    """Give all names, cells, faults and forms of an expression."""
    found = set()

    def look(node):
        if node[0] in ("own", "get", "set", "fail", "catch"):
            found.add(node[1])
        naive.mapped(node, found.add, look)

    look(e)
    return found


def fresh_in(e, heads):
    """List the fresh names of nodes with these heads, as they are met."""
    found = []

    def look(node):
        if node[0] in heads:
            names = list(node[2]) + [x for row in node[4] for x in row[0]] if node[0] == "own" else [node[1]]
            found.extend(x for x in names if isinstance(x, tuple) and x not in found)
        naive.mapped(node, lambda x: x, look)

    look(e)
    return found


def exchanged(e, table):
    return naive.mapped(e, lambda x: table.get(x, x), lambda part: exchanged(part, table))


def name_at(e, path):
    for at in path:
        e = e[at]
    return e


def with_name_at(thing, path, x):
    if not path:
        return x
    return tuple(with_name_at(item, path[1:], x) if at == path[0] else item for at, item in enumerate(thing))


class Writing(unittest.TestCase):
    def test_names_and_order(self):
        tried = 0
        for _, book, e, found in small_expressions(3, 4):
            out = naive.Expander(book).outermost(e)
            names = [x for x in FRESH if x not in words_of(e)]
            order = fresh_in(out, ("let",))
            if len(order) > len(names):
                continue
            self.assertEqual(found, exchanged(out, dict(zip(order, names))))
            try:
                other = naive.Expander(book, 2000).innermost(e)
            except naive.TooLong:
                continue
            self.assertEqual(naive.numbered(other), naive.numbered(out))
            self.assertIs(alike(found, exchanged(other, dict(zip(fresh_in(other, ("let",)), names)))), True)
            self.assertEqual(written(book, found), found)
            self.assertIs(is_core(found), True)
            tried += 1
        self.assertGreater(tried, 100)

    def test_any_use_first(self):
        for maker, book, e, found in small_expressions(2, 3):
            expander = naive.Expander(book)
            for _ in range(300):
                uses = [path for path in self.paths(e) if name_at(e, path)[0] == "own"]
                if not uses:
                    self.assertEqual(naive.numbered(e), naive.numbered(found))
                    break
                path = maker.pick(uses)
                e = with_name_at(e, path, expander.step(name_at(e, path)))

    def paths(self, e, path=()):
        found = [path]
        if e[0] == "own":
            below = [(3, i) for i in range(len(e[3]))] + [(4, k, 1, i) for k, row in enumerate(e[4]) for i in range(len(row[1]))]
        else:
            below = [(at,) for at, kind in enumerate(naive.ARITY[e[0]], start=1) if kind == "e"]
        for steps_down in below:
            found += self.paths(name_at(e, steps_down), path + steps_down)
        return found

    def test_once(self):
        tried = 0
        for _, book, e, found in small_expressions(6, 4):
            if e[0] == "own":
                step = naive.Expander(book).step(e)
                order = []
                for head in ("let", "own", "name"):
                    order += [x for x in fresh_in(step, (head,)) if x not in order]
                names = [x for x in FRESH if x not in words_of(e)]
                self.assertEqual(once(book, e), exchanged(step, dict(zip(order, names))))
                self.assertIs(alike(written(book, once(book, e)), found), True)
                tried += 1
        self.assertGreater(tried, 50)


class Running(unittest.TestCase):
    def test_showings(self):
        ends = {}
        for maker, book, e, core in small_expressions(6, 5):
            inputs = [maker.random.randint(0, 7) for _ in range(maker.random.randint(0, 4))]
            most = maker.pick([0, 1, 2, 5, 20])
            found, count = run(book, e, inputs, most), steps(book, e, inputs, most)
            events, end, counted = naive.Runner(book[1], inputs, most).showing(core)
            if end is None:
                events, end, counted = events, ("never",), None
            self.assertEqual((found, count), ((events, end), counted))
            ends[end[0]] = True
            for fewer in range(min(most, 3)):
                less = run(book, e, inputs, fewer)
                self.assertEqual(less[0], found[0][:len(less[0])])
            self.assertEqual(run(book, core, inputs, most), found)
        self.assertEqual(sorted(ends), ["ends", "fails", "more", "never", "stuck", "waits"])


class Scope(unittest.TestCase):
    def test_what_templates_read(self):
        told = {True: 0, False: 0}
        for maker, book in small_books():
            for _ in range(5):
                form = maker.form("last", book)
                try:
                    right = all(naive.reads_well(book, template, form) for template in form[5])
                except naive.TooLong:
                    continue
                self.assertIs(is_book(("book", book[1], book[2] + (form,))), right)
                told[right] += 1
        self.assertGreater(min(told.values()), 20)

    def test_sights_and_rules(self):
        unruly = 0
        for _, book in small_books():
            for form in book[2]:
                clear = []
                for many in range(4 if form[4] else 1):
                    found = sights(book, form[1], many)
                    try:
                        self.assertEqual(found, naive.sights(book, form[1], many))
                    except naive.TooLong:
                        pass
                    clear.append(all(both is None or both[0] == both[1] for both in found.values()))
                self.assertEqual(all(clear), all(clear[:3]))
                self.assertEqual(has_rule(book, form[1]), all(clear))
                thing = no_rule(book, form[1])
                self.assertEqual(thing is None, all(clear))
                if thing is not None:
                    self.assertIs(is_unclear(book, form[1], thing), True)
                    unruly += 1
        self.assertGreater(unruly, 10)

    def test_binders_and_closed(self):
        for _, book, e, core in small_expressions(3, 4):
            found = binders(book, e)
            self.assertEqual(found, naive.binders(book, e))
            self.assertEqual(list(found), list(spots(book, e)[1]))
            self.assertIs(is_closed(book, e), not any(None in led for led in found.values()))
            self.assertIs(is_closed(book, e), is_closed(("book", book[1], ()), core))


class Names(unittest.TestCase):
    def test_renaming(self):
        told = {True: 0, False: 0}
        for maker, book, e, core in small_expressions(3, 4):
            other = e
            for _ in range(maker.random.randint(1, 4)):
                for knot in knots(book, other)[:1 + maker.random.randint(0, 3)][-1:]:
                    changed = renamed(book, other, knot, maker.pick(["x", "y", "z", "t", "u", "v", "new"]))
                    self.check_barred(book, other, knot, changed)
                    if is_expression(book, changed):
                        other = changed
            self.assertIs(same_but_names(book, e, other), True)
            right = naive.numbered(core) == naive.numbered(written(book, other))
            self.assertEqual(first_unlike(book, e, other) is None, right)
            told[right] += 1
            if right:
                self.assertEqual(knots(book, e), knots(book, other))
                self.check_moves(book, e, other)
        self.assertGreater(min(told.values()), 20)

    def check_barred(self, book, e, knot, changed):
        own, x = name_at(e, knot[0]), name_at(changed, knot[0])
        names = [name_at(e, spot) for lot in spots(book, e) for spot in lot]
        found = barred(book, e, knot)
        if found is None:
            self.assertTrue(any(None in binders(book, e).get(spot, ()) for spot in knot))
        elif x == own or x not in names:
            self.assertNotIn(x, found)
        else:
            right = is_expression(book, changed) and alike(written(book, e), written(book, changed))
            self.assertEqual(x in found, not right)

    def check_moves(self, book, e, other):
        for knot, x in moves(book, e, other):
            self.assertIn(knot, knots(book, e))
            self.assertNotEqual(name_at(e, knot[0]), x)
            self.assertIsNotNone(barred(book, e, knot))
            self.assertNotIn(x, barred(book, e, knot))
            e = renamed(book, e, knot, x)
        self.assertEqual(e, other)

    def test_fewest_names(self):
        tried = 0
        for _, book, e, core in small_expressions(3, 4):
            # What is read in an unclear way gives way to a number, so that the expression is clear.
            for spot, found in binders(book, e).items():
                if len(found) != 1 or found[0] is None:
                    e = with_name_at(e, spot[:-1], ("number", 0))
            groups, lot = fewest_names(book, e)
            self.assertEqual(len(groups), len(lot))
            self.assertEqual(sorted(one for group in groups for one in group), list(spots(book, e)[0]))
            if len(lot) > 1:
                tried += 1
                self.check_pairs(book, e, groups, lot)
        self.assertGreater(tried, 15)

    def check_pairs(self, book, e, groups, lot):
        knot_of = {spot: knot for knot in knots(book, e) for spot in knot}
        numbered = e
        for number, knot in enumerate(knots(book, e)):
            for spot in knot:
                numbered = with_name_at(numbered, spot, "n" + "abcdefghijklmnopqrstuvwxyz"[number % 26] + "abcdefg"[number // 26])
        for lots, right in [(group, True) for group in groups] + [(lot, False)]:
            for at, one in enumerate(lots):
                for other in lots[at + 1:]:
                    both = numbered
                    for spot in knot_of[one] + knot_of[other]:
                        both = with_name_at(both, spot, "same")
                    get_on = is_expression(book, both) and first_unlike(book, e, both) is None
                    self.assertEqual(get_on, right)

    def test_not_clear(self):
        for _, book, e, _ in small_expressions(2, 4):
            wrong = [spot for spot, found in binders(book, e).items() if len(found) != 1 or found[0] is None]
            if wrong:
                with self.assertRaises(NotClear) as caught:
                    fewest_names(book, e)
                self.assertEqual(caught.exception.spot, wrong[0])


class Kinds(unittest.TestCase):
    def random_kind(self, maker, depth=1):
        if depth == 0 or maker.random.random() < 0.6:
            return maker.pick([("number",), ("truth",), ("any", 0), ("any", 1)])
        return ("pair", self.random_kind(maker, depth - 1), self.random_kind(maker, depth - 1))

    def filled(self, maker, kind, filling):
        if kind[0] == "any":
            return filling.setdefault(kind[1], self.random_kind(maker))
        if kind[0] == "pair":
            return ("pair", self.filled(maker, kind[1], filling), self.filled(maker, kind[2], filling))
        return kind

    def schemes(self, heads):
        """Give makers with books and lists of (form, rows, scheme)."""
        for maker, book in small_books(heads):
            plain = naivekinds.Schemes(book)
            found = []
            for form in book[2]:
                for many in range(3 if form[4] else 1):
                    try:
                        wanted = plain.of(form[1], many)
                    except naivekinds.Refused:
                        with self.assertRaises(TooMany):
                            scheme(book, form[1], many)
                        continue
                    self.assertEqual(scheme(book, form[1], many), wanted)
                    if wanted is not None:
                        found.append((form, many, wanted))
            yield maker, book, found

    def test_schemes_and_fits(self):
        told = {True: 0, False: 0}
        for maker, book, found in self.schemes(KINDLY):
            for form, many, scheme_of in found:
                names, parts = naive.places_of(form, many)
                given = dict(zip(names, maker.random.sample(["x", "y", "z", "t", "u", "v", "p", "q"], len(names))))
                core = ("book", book[1], ())
                put = {at: maker.expression(core, maker.random.randint(0, 2), list(given.values())) for at in parts}
                use = naive.open_use(form, many, given.get, put.get)
                try:
                    out = written(book, use)
                except TooMany:
                    continue
                names_told, kind = naive.signature(out) or ((("x", ("number",)),), ("number",))
                filling = {}
                names_told = tuple((x, self.filled(maker, its, filling)) for x, its in names_told)
                kind = self.filled(maker, kind, filling)
                if maker.random.random() < 0.3:
                    kind = self.random_kind(maker)
                for told_names in (names_told, names_told[1:]):
                    right = naive.has_signature(out, told_names, kind)
                    self.assertIs(fits(scheme_of, tuple(given.items()), tuple(put.items()), (told_names, kind)), right)
                    told[right] += 1
        self.assertGreater(min(told.values()), 20)

    def test_signatures(self):
        told = {True: 0, False: 0}
        for heads in (None, KINDLY):
            for _, book, e, core in small_expressions(3, 4, heads):
                try:
                    found = signature_of(book, e)
                except TooMany:
                    continue
                self.assertEqual(found, naive.signature(core))
                told[found is not None] += 1
                if found is not None:
                    self.assertIs(is_signature(found), True)
                    self.assertEqual(naive.signature(expression_of(found)), found)
        self.assertGreater(min(told.values()), 50)

    def test_programs_with_a_kind_are_never_stuck(self):
        tried = 0
        for maker, book, e, _ in small_expressions(6, 4, KINDLY):
            try:
                found = signature_of(book, e)
            except TooMany:
                continue
            if found is None:
                continue
            # Free names get fails for worths, so that it is a program.
            program = e
            for x, _ in found[0]:
                program = ("let", x, maker.pick([("number", 1), ("truth", "yes"), ("ask",)]), program)
            kind = signature_of(book, program)
            if kind is None:
                continue
            self.assertEqual(kind[0], ())
            for inputs in ([], [0] * 9, [7, 1, 0, 3, 5, 2]):
                _, end = run(book, program, inputs, 20)
                self.assertNotEqual(end, ("stuck",))
                if end[0] == "ends":
                    self.assertIs(is_of(end[1], kind[1]), True)
                    tried += 1
        self.assertGreater(tried, 50)

    def test_kindings_and_clashes(self):
        told = {True: 0, False: 0}
        for heads in (None, KINDLY):
            for maker, book, e, _ in small_expressions(2, 4, heads):
                try:
                    found, lot = kinding(book, e), clash(book, e)
                except TooMany:
                    continue
                told[found is None] += 1
                self.assertEqual(found is None, lot is not None)
                self.assertEqual(found is None, signature_of(book, e) is None)
                if lot is not None:
                    self.assertIs(is_clash(book, e, lot), True)
                    self.assertIs(is_clash(book, e, lot[1:]), False)
                    self.check_clash(book, e, lot)
                    continue
                self.assertIs(is_kinding(book, e, found), True)
                self.assertEqual((found[1], found[2][0][2]), signature_of(book, e))
                filling = {}
                names = tuple((x, self.filled(maker, kind, filling)) for x, kind in found[1])
                labels = tuple((path, road, self.filled(maker, kind, filling)) for path, road, kind in found[2])
                self.assertIs(is_kinding(book, e, ("kinding", names, labels)), True)
        self.assertGreater(min(told.values()), 50)

    def check_clash(self, book, e, lot):
        """Hold a clash against kinds that are asked of some nodes alone."""
        schemes = naivekinds.Schemes(book)
        self.assertIs(naivekinds.Freed(schemes, lot).can_be(e), False)
        for path in lot:
            self.assertIs(naivekinds.Freed(schemes, set(lot) - {path}).can_be(e), True)

    def test_uses_show_what_is_weaker(self):
        tried = 0
        for maker, book, found in self.schemes(KINDLY):
            for form, many, other in found:
                names, parts = naive.places_of(form, many)
                given = dict(zip(names, maker.random.sample(["x", "y", "z", "t", "u", "v", "p", "q"], len(names))))
                core = ("book", book[1], ())
                put = {at: maker.expression(core, maker.random.randint(0, 1), list(given.values())) for at in parts}
                signature = signature_of(book, naive.open_use(form, many, given.get, put.get))
                places = [place for place, _, _ in other[1]]
                if signature is None or len(set(places)) != len(places):
                    continue
                use = tuple(given.items()), tuple(put.items()), signature
                self.assertIs(fits(other, *use), True)
                for _, _, one in found:
                    if weaker(one, other):
                        self.assertIs(fits(one, *use), True)
                        tried += 1
        self.assertGreater(tried, 30)

    def test_weaker(self):
        told = {True: 0, False: 0}
        for _, _, found in self.schemes(KINDLY):
            for _, _, one in found:
                for _, _, other in found:
                    try:
                        right = weaker(one, other)
                    except TooMany:
                        continue
                    told[right] += 1
                    use = parted(one, other)
                    self.assertEqual(use is None, right)
                    if use is not None:
                        self.assertIs(is_parted(one, other, use), True)
                        self.assertIs(fits(other, *use), True)
                        self.assertIs(fits(one, *use), False)
        self.assertGreater(min(told.values()), 50)


if __name__ == "__main__":
    unittest.main()
