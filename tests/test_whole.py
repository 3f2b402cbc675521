"""The whole: all roads tell the same ([2], [180])."""

import unittest

import naive
import naivetexts

from formrules.books import is_book
from formrules.booktexts import book_text, read_book
from formrules.brackets import text_of
from formrules.bringing import brings
from formrules.closed import is_closed
from formrules.counting import slots
from formrules.errors import BadBook, FormError, NoPlain, TooMany
from formrules.expanding import Sizes
from formrules.fronts import front, least_steps
from formrules.kinds import kind_of, signature_of
from formrules.least import behaviour
from formrules.naming import alike
from formrules.patches import put
from formrules.plains import plain
from formrules.reading import read
from formrules.running import run, steps
from formrules.shapes import assembled, nodes_of, thing_at
from formrules.shelves import Shelf
from formrules.sights import sights
from formrules.thinglots import needs
from formrules.writing import once, written

from kindly import Kindly
from small import Maker
from test_texts import notated


def great(told, e):
    return Sizes(Shelf(told[2])).of(e) > 900


class Texts(unittest.TestCase):
    def test_two_notations(self):
        """The texts of a program by two notations are read as it."""
        for seed in range(50):
            told, notation, maker = notated(seed)
            other = naivetexts.notation(told, seed + 1000)
            e = maker.expression(told, 3)
            self.assertEqual(read(told, notation, text_of(told, notation, e)), e)
            self.assertEqual(read(told, other, text_of(told, other, e)), e)
            self.assertEqual(read_book(book_text(told, other)), (told, other))

    def test_written_out_in_a_text(self):
        """Writing out, in a text, use by use in any order, comes to what is alike and shows the same."""
        tried = 0
        for seed in range(70):
            told, notation, maker = notated(seed)
            e = maker.expression(told, 3)
            if great(told, e) or len(nodes_of(e)) > 60:
                continue
            whole = written(told, e)
            for _ in range(2):
                text = text_of(told, notation, e)
                while True:
                    now = read(told, notation, text)
                    uses = [path for path, node in nodes_of(now) if node[0] == "own"]
                    if not uses or len(nodes_of(now)) > 300:
                        break
                    path = maker.random.choice(uses)
                    # A fresh name of one use may be let around another one: then it is written out by itself.
                    new = fresh_names(now, once(told, thing_at(now, path)), thing_at(now, path))
                    text = put(told, notation, text, path, text_of(told, notation, new))
                if uses:
                    continue
                self.assertTrue(alike(now, whole), (told, e))
                for inputs in ([], [1, 2, 0, 7, 5]):
                    self.assertEqual(run(told, now, inputs, 40), run(told, e, inputs, 40))
                tried += 1
        self.assertGreater(tried, 40)


def fresh_names(e, new, use):
    """Give what a use is written out to with fresh names that stand nowhere in the whole expression."""
    given, all_names = [{x for _, node in nodes_of(one) for x in names_of(node)} for one in (use, new)]
    names = {x: "f" + "".join("abcdefgh"[(len(nodes_of(e)) * 13 + k) // times % 8] for times in (1, 8, 64, 512)) for k, x in enumerate(sorted(all_names - given))}
    return assembled([node for _, node in nodes_of(new)], names, {})


def names_of(node):
    if node[0] == "own":
        return list(node[2]) + [x for names, _ in node[4] for x in names]
    return [node[1]] if node[0] in ("let", "name") else []


class Rules(unittest.TestCase):
    def test_what_is_written_out(self):
        """It has the kind, the showings, what free runs come to and the steps that the rules tell."""
        kinds, closed = 0, 0
        for seed in range(150):
            maker = Maker(seed)
            told = maker.book(2)
            e = maker.expression(told, 3)
            if great(told, e):
                continue
            core = written(told, e)
            empty = ("book", told[1], ())
            try:
                self.assertEqual(signature_of(told, e), signature_of(empty, core))
                kinds += kind_of(told, e) is not None
            except TooMany:
                pass
            self.assertEqual(is_closed(told, e), is_closed(empty, core))
            if not is_closed(told, e):
                continue
            closed += 1
            # Faults are those of the rules: all forms stay in the book.
            self.assertEqual(brings(told, (), e), brings(told, (), core))
            for ending in (("ends", ("number",)), ("fails", None), ("ends", ("truth", "yes"))):
                self.assertEqual(least_steps(told, (), e, ending), least_steps(told, (), core, ending))
            for inputs in ([], [3, 0, 1]):
                self.assertEqual(run(told, e, inputs, 30), run(empty, core, inputs, 30))
                self.assertEqual(steps(told, e, inputs, 30), steps(empty, core, inputs, 30))
        self.assertGreater(kinds, 15)
        self.assertGreater(closed, 15)

    def test_forms_with_what_they_use_written_in(self):
        """They have the same sights, plain schemes, behaviours, needs and counts."""
        tried = 0
        for seed in range(110):
            maker = Kindly(seed)
            told = maker.book(3)
            last = told[2][-1]
            try:
                rules = tuple(written_in(told, rule) for rule in last[5])
            except naive.TooLong:
                continue
            if max(len(nodes_of(rule)) for rule in rules) > 60:
                continue
            other = ("book", told[1], told[2][:-1] + (last[:5] + (rules,),))
            self.assertTrue(is_book(other))
            for many in (0, 1) if last[4] else (0,):
                for function in (sights, plain, behaviour, slots):
                    self.assertEqual(told_by(function, told, last[1], many), told_by(function, other, last[1], many), (seed, function))
                for what in (("shows",), ("asks",), ("endless",), ("sets", "c"), ("fails", None), ("ends", ("number",)), ("ends", ("truth", "no"))):
                    self.assertEqual(told_by(needs, told, last[1], many, what), told_by(needs, other, last[1], many, what), (seed, what))
                    if what[0] in ("ends", "fails"):
                        self.assertEqual(told_by(front, told, last[1], many, what), told_by(front, other, last[1], many, what), (seed, what))
                tried += any(node[0] == "own" for rule in last[5] for _, node in nodes_of(rule))
        self.assertGreater(tried, 25)


def told_by(function, *arguments):
    """Give what a function tells, or the error that it brings."""
    try:
        return function(*arguments)
    except (TooMany, NoPlain) as error:
        return type(error).__name__, getattr(error, "most", None)


def written_in(told, rule):
    """Give a template with all own uses in it written out, places and rest as leaves."""
    expander = naive.Expander(told, 300)
    names = {}

    def own_name(x):
        if isinstance(x, tuple) and x[0] == "fresh":
            return names.setdefault(x, "n" + "".join("abcdefgh"[len(names) // times % 8] for times in (1, 8, 64)))
        return x

    def hidden(node):
        return ("leaf", node) if node[0] in ("part", "here", "rest") else naive.mapped(node, lambda x: x, hidden)

    def shown(node):
        return node[1] if node[0] == "leaf" else naive.mapped(node, own_name, shown)

    return shown(expander.outermost(hidden(rule)))


class Errors(unittest.TestCase):
    def test_errors_are_below_form_error(self):
        with self.assertRaises(FormError):
            read_book("x")
        with self.assertRaises(ValueError):
            text_of(None, None, None)
        self.assertEqual(str(BadBook("told")), "told")

if __name__ == "__main__":
    unittest.main()
