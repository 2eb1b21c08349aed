"""The form of the code: the rules of ../shared/LANGUAGE.md that are quickly judged."""

import ast
import builtins
import importlib
import pathlib
import re
import unittest

FOLDER = pathlib.Path(importlib.import_module("meanways").__file__).parent
LIBRARY = {
    "heapq": {"heappush", "heappop", "heapify", "heapreplace", "heappushpop"},
    "math": {"gcd", "lcm", "isqrt", "comb", "perm", "factorial"},
    "itertools": {"product", "combinations", "permutations", "chain", "accumulate", "pairwise", "islice",
                  "zip_longest"},
    "collections": {"defaultdict"},
}
SEQUENCE = ["errors", "exact", "schemes", "tables", "reports", "forms", "parting", "telling", "depending", "keeping",
            "live", "texts", "logs", "desk"]
# The double-underscore methods of L5 that the package has use for.
METHODS = {"__init__", "__eq__", "__len__", "__call__", "__iter__", "__getitem__", "__mul__", "__add__", "__sub__",
           "__enter__", "__exit__"}
# The builtins of L8 without iter and next, getattr and its like, chr, pow and bytes, which other rules narrow.
BUILTINS = {"len", "range", "enumerate", "zip", "min", "max", "sum", "abs", "sorted", "reversed", "int", "str", "bool",
            "list", "tuple", "dict", "set", "isinstance", "ord", "repr", "any", "all", "divmod", "ValueError",
            "TypeError", "KeyError", "ZeroDivisionError", "NotImplemented", "property"}
# Words of L17 and L12 that stand nowhere in code.
WORDS = {"type", "typing", "enum", "Enum", "Flag", "Generic", "Protocol", "ABC", "Meta", "register", "mro", "elements",
         "open", "input", "law", "dataclass", "overload", "contextmanager", "_wall", "_WallAttr", "global", "async"}


def sources():
    """The name and the text of each file of the package."""
    return [(path.stem, path.read_text(encoding="utf-8")) for path in sorted(FOLDER.glob("*.py"))]


def nodes():
    return [(name, node) for name, text in sources() for node in ast.walk(ast.parse(text))]


class Form(unittest.TestCase):

    def test_the_folder_contains_only_files_of_the_program(self):
        for path in FOLDER.iterdir():
            if path.name != "__pycache__":
                self.assertRegex(path.name, r"^(__init__|[a-z]+)\.py$")

    def test_characters_and_sizes(self):
        for name, text in sources():
            self.assertRegex(text, re.compile(r"\A[ -~\n]*\Z"), name)
            lines = text.split("\n")
            self.assertLessEqual(len(lines), 400, name)
            self.assertLessEqual(max(map(len, lines)), 120, name)

    def test_functions_are_short(self):
        for name, node in nodes():
            if isinstance(node, ast.FunctionDef):
                self.assertLessEqual(node.end_lineno - node.lineno + 1, 40, (name, node.name))

    def test_imports(self):
        for name, node in nodes():
            self.assertNotIsInstance(node, ast.Import, name)
            if isinstance(node, ast.ImportFrom) and node.module in LIBRARY:
                self.assertLessEqual({one.name for one in node.names}, LIBRARY[node.module], name)
            elif isinstance(node, ast.ImportFrom):
                package, _, module = node.module.partition(".")
                self.assertEqual((package, node.level), ("meanways", 0), name)
                self.assertIn(module, SEQUENCE[:SEQUENCE.index(name)], name)

    def test_no_floats_no_decorators_but_properties_no_other_statements(self):
        barred = (ast.Div, ast.Global, ast.AsyncFunctionDef, ast.Await, ast.AnnAssign)
        for name, node in nodes():
            self.assertNotIsInstance(node, barred, name)
            if isinstance(node, ast.Constant):
                self.assertNotIsInstance(node.value, (float, complex), name)
                self.assertNotIn("%", str(node.value), name)
            if isinstance(node, ast.FunctionDef):
                for one in node.decorator_list:
                    self.assertEqual(ast.unparse(one), "property", name)

    def test_builtins_go_over_lists(self):
        for name, node in nodes():
            self.assertNotIsInstance(node, ast.GeneratorExp, name)
            if isinstance(node, ast.Call) and isinstance(node.func, ast.Attribute):
                self.assertNotIn(node.func.attr, ("sort", "format", "translate"), name)

    def test_only_builtins_that_are_allowed(self):
        for name, node in nodes():
            if isinstance(node, ast.Name) and isinstance(node.ctx, ast.Load) and hasattr(builtins, node.id):
                self.assertIn(node.id, BUILTINS, name)

    def test_no_word_that_is_barred(self):
        for name, node in nodes():
            for field in ("id", "attr", "arg", "name"):
                word = getattr(node, field, None)
                if isinstance(word, str):
                    self.assertNotIn(word, WORDS, name)
                    self.assertTrue(word.isascii(), name)
            self.assertNotIsInstance(node, ast.Pow, name)

    def test_double_underscore_methods(self):
        for name, node in nodes():
            if isinstance(node, ast.ClassDef):
                methods = {one.name: one for one in node.body if isinstance(one, ast.FunctionDef)}
                self.assertLessEqual({one for one in methods if one.startswith("__")}, METHODS, name)
                if "__getitem__" in methods:
                    self.assertIsInstance(methods["__iter__"].body[0], ast.Raise, name)
                for one in ("__len__", "__eq__"):
                    if one in methods:
                        self.assertIsInstance(methods[one].body[0], ast.Return, name)
                if "__len__" in methods:
                    self.assertRegex(ast.unparse(methods["__len__"].body[0]), r"^return len\(.*\)$")

    def test_only_own_errors_are_caught_and_by_name(self):
        own = {node.name for name, node in nodes() if name == "errors" and isinstance(node, ast.ClassDef)}
        for name, node in nodes():
            if isinstance(node, ast.ExceptHandler):
                caught = node.type.elts if isinstance(node.type, ast.Tuple) else [node.type]
                self.assertLessEqual({one.id for one in caught}, own, name)
                self.assertIsNone(node.name, name)

    def test_what_stands_in_an_exit(self):
        for name, node in nodes():
            if isinstance(node, ast.FunctionDef) and node.name == "__exit__":
                for one in ast.walk(node):
                    if isinstance(one, ast.stmt) and one is not node:
                        self.assertIsInstance(one, (ast.If, ast.Assign), name)
                    self.assertNotIsInstance(one, (ast.Call, ast.Subscript, ast.BinOp), name)

    def test_is_stands_beside_none_true_and_false(self):
        for name, node in nodes():
            if isinstance(node, ast.Compare) and isinstance(node.ops[0], (ast.Is, ast.IsNot)):
                self.assertIsInstance(node.comparators[0], ast.Constant, name)

    def test_what_stands_at_module_level(self):
        allowed = (ast.Expr, ast.ImportFrom, ast.FunctionDef, ast.ClassDef, ast.Assign)
        for name, text in sources():
            bound = []
            for at, node in enumerate(ast.parse(text).body):
                self.assertIsInstance(node, allowed, name)
                if isinstance(node, ast.Expr):
                    self.assertEqual(at, 0, name)
                if isinstance(node, ast.Assign):
                    self.assertEqual(len(node.targets), 1, name)
                    bound.append(node.targets[0].id)
                if isinstance(node, ast.ImportFrom):
                    bound += [one.name for one in node.names]
                if isinstance(node, (ast.FunctionDef, ast.ClassDef)):
                    bound.append(node.name)
            self.assertEqual(len(bound), len(set(bound)), name)

    def test_no_local_name_means_anything_else(self):
        for name, text in sources():
            tree = ast.parse(text)
            taken = {one.name for node in tree.body if isinstance(node, ast.ImportFrom) for one in node.names}
            taken |= {node.name for node in tree.body if isinstance(node, (ast.FunctionDef, ast.ClassDef))}
            taken |= set(dir(builtins))
            for node in ast.walk(tree):
                if isinstance(node, ast.arg):
                    self.assertNotIn(node.arg, taken, name)
                if isinstance(node, ast.Name) and isinstance(node.ctx, ast.Store):
                    self.assertNotIn(node.id, taken, name)


if __name__ == "__main__":
    unittest.main()
