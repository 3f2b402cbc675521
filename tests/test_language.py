"""The rules of the language that can be seen in the files of the package."""

import ast
import builtins
import pathlib
import unittest

import formrules

FOLDER = pathlib.Path(formrules.__file__).parent
BUILTINS = set(
    "len range enumerate zip min max sum abs sorted reversed int str bool list tuple dict set isinstance ord repr any all "
    "divmod pow iter next super Exception ValueError TypeError KeyError IndexError LookupError NotImplementedError".split()
)
BARRED = set(
    "register mro elements open input law version_info with_traceback add_note type typing enum dataclass overload eval exec "
    "globals locals vars dir id compile exit quit getattr setattr hasattr frozenset chr float bytearray memoryview".split()
)
METHODS = set(
    "append clear copy count endswith extend find get index insert isalnum isalpha isdigit islower isspace isupper items join "
    "keys ljust lower lstrip partition pop remove replace reverse rfind rjust rpartition rsplit rstrip setdefault split "
    "splitlines startswith strip update upper values zfill bit_length sort add discard".split()
)
NOT_ATTRIBUTES = set(
    "items keys values pop update append clear extend insert remove reverse setdefault sort args encode decode hex fromhex format".split()
)
MODIFYING = set("append extend insert pop remove clear update setdefault reverse sort add discard".split())


def files():
    """Give (name, tree) of all files of the package."""
    for path in sorted(FOLDER.glob("*.py")):
        yield path.stem, ast.parse(path.read_text(encoding="utf-8"))


class Family:
    """The classes of the package: their methods, the attributes that they assign, and their bases."""

    def __init__(self):
        self.methods, self.attributes, self.bases = {}, {}, {}
        for _, tree in files():
            for node in tree.body:
                if isinstance(node, ast.ClassDef):
                    inner = [one for one in node.body if isinstance(one, ast.FunctionDef)]
                    self.methods[node.name] = {one.name for one in inner}
                    self.bases[node.name] = [base.id for base in node.bases]
                    self.attributes[node.name] = {
                        one.attr for one in ast.walk(node) if isinstance(one, ast.Attribute) and isinstance(one.ctx, ast.Store)
                    }

    def above(self, name):
        found = {name}
        for base in self.bases.get(name, []):
            found |= self.above(base)
        return found


class Language(unittest.TestCase):
    def test_number_of_files(self):
        self.assertLessEqual(len(list(FOLDER.glob("*"))) - len(list(FOLDER.glob("__pycache__"))), 100)

    def test_no_method_is_read_off_a_class(self):
        family = Family()
        for file, tree in files():
            for node in ast.walk(tree):
                if isinstance(node, ast.Attribute) and isinstance(node.value, ast.Name) and node.value.id in family.methods:
                    self.assertEqual(node.attr, "__init__", (file, node.lineno))

    def test_no_method_is_an_attribute_of_its_family(self):
        family = Family()
        for name in family.methods:
            around = family.above(name)
            methods = set().union(*[family.methods.get(one, set()) for one in around])
            attributes = set().union(*[family.attributes.get(one, set()) for one in around])
            self.assertEqual(methods & attributes, set(), name)
            self.assertEqual(attributes & NOT_ATTRIBUTES, set(), name)

    def test_no_method_is_defined_twice_and_all_attributes_are_assigned(self):
        family = Family()
        assigned = set().union(*family.attributes.values())
        methods = set().union(*family.methods.values())
        for file, tree in files():
            for node in ast.walk(tree):
                if isinstance(node, ast.ClassDef):
                    inner = [one.name for one in node.body if isinstance(one, ast.FunctionDef)]
                    self.assertEqual(len(inner), len(set(inner)), (file, node.name))
                if isinstance(node, ast.Attribute) and isinstance(node.ctx, ast.Load):
                    self.assertIn(node.attr, assigned | methods | METHODS | {"__init__", "__class__", "__name__"}, (file, node.lineno))

    def test_attributes_are_assigned_through_local_names(self):
        for file, tree in files():
            for node in ast.walk(tree):
                if isinstance(node, ast.Attribute) and isinstance(node.ctx, ast.Store):
                    self.assertIsInstance(node.value, ast.Name, (file, node.lineno))

    def test_words(self):
        for file, tree in files():
            for node in ast.walk(tree):
                word = getattr(node, "id", getattr(node, "attr", getattr(node, "arg", getattr(node, "name", None))))
                if isinstance(word, str):
                    self.assertNotIn(word, BARRED, (file, getattr(node, "lineno", None)))
                    if not word.startswith("__"):
                        self.assertFalse(word.startswith(("_wall", "__", "_pe_", "_record", "_outside", "_written_out")), (file, word))

    def test_statements_and_values(self):
        barred = (ast.Global, ast.AsyncFunctionDef, ast.Await, ast.Div, ast.Import, ast.Starred, ast.Match, ast.AnnAssign)
        for file, tree in files():
            for node in ast.walk(tree):
                self.assertNotIsInstance(node, barred, (file, getattr(node, "lineno", None)))
                if isinstance(node, ast.Constant):
                    self.assertNotIsInstance(node.value, (float, complex))
                    if isinstance(node.value, str):
                        self.assertNotIn("%", node.value, (file, node.lineno))
                if isinstance(node, ast.Compare) and any(isinstance(op, (ast.Is, ast.IsNot)) for op in node.ops):
                    sides = [node.left] + node.comparators
                    told = [one for one in sides if isinstance(one, ast.Constant) and one.value in (None, True, False)]
                    self.assertTrue(told, (file, node.lineno))
                if isinstance(node, ast.Pow):
                    self.fail((file, "an exponent"))

    def test_names_of_builtins_classes_and_imports_mean_nothing_else(self):
        every = set(dir(builtins))
        for file, tree in files():
            bound = {one.asname or one.name for node in tree.body if isinstance(node, ast.ImportFrom) for one in node.names}
            bound |= {node.name for node in tree.body if isinstance(node, ast.ClassDef)}
            for node in ast.walk(tree):
                words = []
                if isinstance(node, ast.FunctionDef):
                    words = [one.arg for one in node.args.args]
                elif isinstance(node, ast.Lambda):
                    words = [one.arg for one in node.args.args]
                elif isinstance(node, ast.Name) and isinstance(node.ctx, ast.Store):
                    words = [node.id]
                for word in words:
                    self.assertNotIn(word, every | bound, (file, node.lineno))
                if isinstance(node, ast.Name) and isinstance(node.ctx, ast.Load) and node.id in every:
                    self.assertIn(node.id, BUILTINS, (file, node.lineno))

    def test_imported_and_defined_names_are_used(self):
        for file, tree in files():
            bound = [one.name for node in tree.body if isinstance(node, ast.ImportFrom) for one in node.names]
            self.assertEqual(len(bound), len(set(bound)), file)
            used = {node.id for node in ast.walk(tree) if isinstance(node, ast.Name)}
            self.assertEqual([word for word in bound if word not in used], [], file)

    def test_keywords_of_builtins(self):
        let = {"sorted": {"key", "reverse"}, "min": {"key", "default"}, "max": {"key", "default"}, "sum": {"start"}, "enumerate": {"start"}}
        for file, tree in files():
            for node in ast.walk(tree):
                if isinstance(node, ast.Call) and isinstance(node.func, ast.Name) and node.func.id in BUILTINS:
                    given = {one.arg for one in node.keywords}
                    self.assertLessEqual(given, let.get(node.func.id, set()), (file, node.lineno))

    def test_sets_stand_where_they_may(self):
        for file, tree in files():
            parents = {child: node for node in ast.walk(tree) for child in ast.iter_child_nodes(node)}
            for node in ast.walk(tree):
                is_set = isinstance(node, (ast.Set, ast.SetComp))
                is_set = is_set or (isinstance(node, ast.Call) and isinstance(node.func, ast.Name) and node.func.id == "set")
                if is_set:
                    above = parents[node]
                    if isinstance(above, ast.BinOp):
                        above = parents[above]
                    called = isinstance(above, ast.Call) and isinstance(above.func, ast.Name) and above.func.id in ("sorted", "len")
                    self.assertTrue(called or isinstance(above, (ast.Compare, ast.Assign)), (file, node.lineno))

    def test_generators_stand_in_lists(self):
        for file, tree in files():
            for node in ast.walk(tree):
                self.assertNotIsInstance(node, (ast.GeneratorExp, ast.Yield, ast.YieldFrom), file)

    def test_loops_leave_what_they_go_over(self):
        for file, tree in files():
            for loop in ast.walk(tree):
                if isinstance(loop, ast.For):
                    over = {ast.unparse(one) for one in over_of(loop.iter)}
                    for node in [one for row in loop.body for one in ast.walk(row)]:
                        if isinstance(node, ast.Call) and isinstance(node.func, ast.Attribute) and node.func.attr in MODIFYING:
                            self.assertNotIn(ast.unparse(node.func.value), over, (file, node.lineno))
                        if isinstance(node, ast.Subscript) and isinstance(node.ctx, (ast.Store, ast.Del)):
                            self.assertNotIn(ast.unparse(node.value), over, (file, node.lineno))

    def test_values_at_module_level_are_plain(self):
        plain = (ast.Constant, ast.List, ast.Tuple, ast.Dict, ast.Name, ast.Load, ast.UnaryOp, ast.USub)
        for file, tree in files():
            for node in tree.body:
                self.assertIsInstance(node, (ast.Expr, ast.ImportFrom, ast.FunctionDef, ast.ClassDef, ast.Assign), file)
                if isinstance(node, ast.Assign):
                    for one in ast.walk(node.value):
                        self.assertIsInstance(one, plain, (file, node.lineno))

    def test_tables_of_functions_are_called_by_a_name(self):
        for file, tree in files():
            for node in ast.walk(tree):
                if isinstance(node, ast.Call):
                    self.assertNotIsInstance(node.func, (ast.Subscript, ast.Call), (file, node.lineno))

    def test_views_are_iterated_at_once(self):
        for file, tree in files():
            parents = {child: node for node in ast.walk(tree) for child in ast.iter_child_nodes(node)}
            for node in ast.walk(tree):
                if isinstance(node, ast.Call):
                    word = node.func.id if isinstance(node.func, ast.Name) else getattr(node.func, "attr", "")
                    view = isinstance(node.func, ast.Name) and word in ("zip", "enumerate", "reversed", "range")
                    view = view or (isinstance(node.func, ast.Attribute) and word in ("items", "keys", "values"))
                    if view:
                        above = parents[node]
                        fine = isinstance(above, (ast.For, ast.comprehension))
                        if isinstance(above, ast.Call) and isinstance(above.func, ast.Name):
                            fine = above.func.id in ("list", "tuple", "dict", "sorted", "sum", "any", "all", "enumerate", "zip", "min", "max")
                            fine = fine or (above.func.id in ("reversed", "len") and word == "range")
                        self.assertTrue(fine, (file, node.lineno, ast.unparse(node)))


def over_of(node):
    """List what a loop goes over, straight or by zip, enumerate, reversed or a view."""
    if isinstance(node, ast.Call):
        if isinstance(node.func, ast.Name) and node.func.id in ("zip", "enumerate", "reversed"):
            return [one for inner in node.args for one in over_of(inner)]
        if isinstance(node.func, ast.Attribute) and node.func.attr in ("items", "keys", "values"):
            return [node.func.value]
        return []
    return [node]


if __name__ == "__main__":
    unittest.main()
