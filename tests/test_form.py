"""The form of the code: the rules of ../shared/LANGUAGE.md that are quickly judged."""

import ast
import importlib
import pathlib
import re
import unittest

FOLDER = pathlib.Path(importlib.import_module("meanways").__file__).parent
LIBRARY = {
    "heapq": {"heappush", "heappop", "heapify", "heapreplace", "heappushpop"},
    "math": {"gcd", "lcm", "isqrt", "comb", "perm", "factorial"},
    "itertools": {"product", "combinations", "permutations", "chain", "accumulate", "pairwise", "islice",
                  "zip_longest"},
    "collections": {"defaultdict"},
}
SEQUENCE = ["errors", "exact", "schemes", "tables", "reports", "forms", "parting", "telling", "depending", "keeping",
            "live", "texts", "logs", "desk"]


def sources():
    """The name and the text of each file of the package."""
    return [(path.stem, path.read_text(encoding="utf-8")) for path in sorted(FOLDER.glob("*.py"))]


def nodes():
    return [(name, node) for name, text in sources() for node in ast.walk(ast.parse(text))]


class Form(unittest.TestCase):

    def test_the_folder_contains_only_files_of_the_program(self):
        for path in FOLDER.iterdir():
            if path.name != "__pycache__":
                self.assertRegex(path.name, r"^(__init__|[a-z]+)\.py$")

    def test_characters_and_sizes(self):
        for name, text in sources():
            self.assertRegex(text, re.compile(r"\A[ -~\n]*\Z"), name)
            lines = text.split("\n")
            self.assertLessEqual(len(lines), 400, name)
            self.assertLessEqual(max(map(len, lines)), 120, name)

    def test_functions_are_short(self):
        for name, node in nodes():
            if isinstance(node, ast.FunctionDef):
                self.assertLessEqual(node.end_lineno - node.lineno + 1, 40, (name, node.name))

    def test_imports(self):
        for name, node in nodes():
            self.assertNotIsInstance(node, ast.Import, name)
            if isinstance(node, ast.ImportFrom) and node.module in LIBRARY:
                self.assertLessEqual({one.name for one in node.names}, LIBRARY[node.module], name)
            elif isinstance(node, ast.ImportFrom):
                package, _, module = node.module.partition(".")
                self.assertEqual((package, node.level), ("meanways", 0), name)
                self.assertIn(module, SEQUENCE[:SEQUENCE.index(name)], name)

    def test_no_floats_no_decorators_but_properties_no_other_statements(self):
        barred = (ast.Div, ast.Global, ast.AsyncFunctionDef, ast.Await, ast.AnnAssign)
        for name, node in nodes():
            self.assertNotIsInstance(node, barred, name)
            if isinstance(node, ast.Constant):
                self.assertNotIsInstance(node.value, (float, complex), name)
                self.assertNotIn("%", str(node.value), name)
            if isinstance(node, ast.FunctionDef):
                for one in node.decorator_list:
                    self.assertEqual(ast.unparse(one), "property", name)


if __name__ == "__main__":
    unittest.main()
