"""The interface of the document: where names are defined, and what their parameters are called."""

import ast
import importlib
import inspect
import pathlib
import unittest

import formrules
from formrules.desk import Desk

PARAMETERS = {
    "words": {"is_name": "thing", "is_sign": "thing", "words_of": "text"},
    "terms": {"is_worth": "thing", "is_kind": "thing"},
    "books": {"is_book": "thing", "is_expression": "book thing", "is_core": "thing"},
    "naming": {"alike": "one other"},
    "writing": {"once": "book use", "written": "book e"},
    "running": {"run": "book e inputs most", "steps": "book e inputs most"},
    "spots": {"spots": "book e"},
    "sights": {"sights": "book name many", "rule": "book name many", "has_rule": "book name"},
    "leading": {"binders": "book e", "no_rule": "book name", "is_unclear": "book name thing"},
    "closed": {"is_closed": "book e"},
    "likeness": {"same_but_names": "book one other", "first_unlike": "book one other"},
    "knots": {"knots": "book e", "renamed": "book e knot x", "barred": "book e knot", "moves": "book one other"},
    "fewnames": {"fewest_names": "book e"},
    "signatures": {"is_signature": "thing", "is_of": "worth kind", "expression_of": "signature"},
    "schemes": {"is_scheme": "thing", "scheme": "book name many", "fits": "told names parts signature"},
    "kinds": {"signature_of": "book e", "kind_of": "book e"},
    "kindings": {"kinding": "book e", "is_kinding": "book e thing"},
    "clashes": {"clash": "book e", "is_clash": "book e thing"},
    "weaker": {"weaker": "one other", "parted": "one other", "is_parted": "one other thing"},
    "plains": {"is_plain": "thing", "plain": "book name many", "is_filling": "one other", "common": "one other"},
    "evens": {"even_kind": "book name", "first_uneven": "book name"},
    "places": {"places": "book name many", "outcomes": "kind"},
    "opened": {"played": "book name many answers most plain"},
    "sheets": {"is_sheet": "book name many thing plain", "sheet_played": "book name many sheet answers most plain"},
    "least": {"least": "book name many sheet plain", "behaviour": "book name many plain"},
    "apart": {"first_apart": "book one other many plain"},
    "together": {"within": "book name many", "put_together": "book name many sheets"},
    "sources": {"sources": "book name many place plain", "gives": "book name many plain"},
    "sides": {"exchanged": "book name other e"},
    "surroundings": {"unlike": "book name other many", "tells": "book name other many thing", "probe": "book name other many"},
    "freedoms": {"is_lot": "book name many thing", "freedoms": "book use", "keeps_within": "book name many lot e"},
    "weakest": {"breaks": "book name other many lot", "greatest_lots": "book name other many", "breaking_lots": "book name other many"},
    "exchanging": {"may_exchange": "book name other many e", "exchanged_at": "book name other e path", "exchanged_book": "book name other"},
    "dims": {"dimmed": "worth"},
    "freeruns": {},
    "bringing": {"brings": "book names e", "roots": "book names e goal"},
    "thinglots": {"things": "book name many", "needs": "book name many goal"},
    "steering": {"way": "book name many lot goal", "is_way": "book name many lot goal thing"},
    "barring": {"bar": "book name many lot goal", "is_bar": "book name many lot goal thing"},
    "counting": {"slots": "book name many", "counted": "book use inputs"},
    "fronts": {"front": "book name many ending", "greatest": "book name many ending", "least_steps": "book names e ending"},
    "plays": {"play": "book name many ending count"},
    "pricing": {"needed": "book name many ending", "reason": "book name many ending count", "is_reason": "book name many ending count thing"},
    "spans": {
        "equations": "book name many ending", "spanning": "book name many ending", "is_spanning": "book name many ending thing",
        "breaking": "book name many ending row",
    },
    "editions": {"kept": "old new", "fares": "old new name many", "wronged": "old new name many"},
    "wishes": {"is_wish": "thing", "first_line": "wish line", "first_lines": "wish"},
    "deeds": {"is_deed": "book name many wish thing", "story": "book name many wish deeds", "is_story": "book name many wish deeds thing"},
    "promises": {"weakest": "book name many wish", "promise_for": "book name many wish deeds", "still": "old new name many wish"},
    "trees": {"is_bare": "book name", "is_tree": "parts thing", "tree_of": "book name"},
    "writings": {"is_writing": "book names parts thing", "tree_written": "book names parts writing", "is_cut": "parts tree thing"},
    "tables": {"is_table": "book names parts tree thing", "table": "book names parts tree", "least_writing": "book names parts tree"},
    "lots": {"needless": "book names", "least_lots": "book names name", "bases": "book names"},
    "carrying": {"carried": "one other names", "carry": "one other names e"},
    "patterns": {"is_notation": "book thing"},
    "readings": {"readings_many": "book notation text", "rivals": "book notation text"},
    "reading": {"can_follow": "book notation text", "read": "book notation text"},
    "patches": {"span": "book notation text path", "put": "book notation text path rows"},
    "brackets": {
        "quarrels": "book notation e", "is_settled": "book notation e some", "text_of": "book notation e", "brackets": "book notation e", "apart": "book notation e",
    },
    "clear": {"rival_text": "book notation heads"},
    "booktexts": {"read_book": "text", "book_text": "book notation"},
    "desk": {},
}
FOLDER = pathlib.Path(formrules.__file__).parent


def trees():
    """Give (name, text, tree) of all files of the package."""
    for path in sorted(FOLDER.glob("*.py")):
        text = path.read_text(encoding="utf-8")
        yield path.stem, text, ast.parse(text)


class Interface(unittest.TestCase):
    def test_names_and_parameters(self):
        for file, told in PARAMETERS.items():
            module = importlib.import_module("formrules." + file)
            for word, parameters in told.items():
                function = getattr(module, word)
                self.assertEqual(function.__module__, "formrules." + file)
                self.assertEqual(list(inspect.signature(function).parameters), parameters.split())

    def test_desk(self):
        self.assertEqual(Desk.__module__, "formrules.desk")
        self.assertEqual(list(inspect.signature(Desk).parameters), ["text"])
        self.assertEqual(list(inspect.signature(Desk.say).parameters), ["self", "line"])
        self.assertIn("say", vars(Desk))

    def test_init_defines_nothing(self):
        tree = ast.parse((FOLDER / "__init__.py").read_text(encoding="utf-8"))
        self.assertTrue(all(isinstance(node, ast.Expr) for node in tree.body))

    def test_files_import_only_from_those_ahead_of_them(self):
        order = ["errors"] + list(PARAMETERS)
        imports = {}
        for file, _, tree in trees():
            found = [node for node in ast.walk(tree) if isinstance(node, (ast.Import, ast.ImportFrom))]
            self.assertTrue(all(isinstance(node, ast.ImportFrom) for node in found), file)
            names = [node.module for node in found]
            imports[file] = {name.split(".")[1] for name in names if name.startswith("formrules.")}
            self.assertLessEqual({name for name in names if not name.startswith("formrules.")}, {"heapq", "itertools", "math"})

        def reached(file, ahead):
            for other in imports[file]:
                self.assertNotIn(other, ahead, "files import from each other")
                yield other
                yield from reached(other, ahead + [other])

        for file in imports:
            later = order[order.index(file) + 1:] if file in order else []
            self.assertEqual([other for other in reached(file, [file]) if other in later], [])

    def test_sizes(self):
        for file, text, tree in trees():
            self.assertLessEqual(len(text.splitlines()), 399, file)
            self.assertLessEqual(max(len(line) for line in text.splitlines()), 120, file)
            self.assertTrue(all(" " <= one <= "~" or one == "\n" for one in text), file)
            for node in ast.walk(tree):
                if isinstance(node, ast.FunctionDef):
                    self.assertLessEqual(node.end_lineno - node.lineno + 1, 40, (file, node.name))


if __name__ == "__main__":
    unittest.main()
