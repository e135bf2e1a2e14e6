"""The parts of the language rules that can be seen without much ado."""

import ast
import pathlib
import unittest

PACKAGE = pathlib.Path(__file__).resolve().parent.parent / "snowploughs"
FILES = sorted(PACKAGE.glob("*.py"))
OWN_NAMES_OF_PYTHON = {
    "len", "range", "enumerate", "zip", "min", "max", "sum", "abs", "sorted", "reversed", "int", "str", "bool", "list",
    "tuple", "dict", "set", "frozenset", "isinstance", "ord", "repr", "any", "all", "divmod", "Exception",
}


class FormTest(unittest.TestCase):
    def test_the_files_of_the_package(self):
        names = sorted(path.name for path in PACKAGE.iterdir() if path.name != "__pycache__")
        self.assertEqual(names, ["__init__.py", "service.py"])

    def test_signs_and_sizes(self):
        for path in FILES:
            rows = path.read_text(encoding="utf-8").split("\n")
            self.assertLessEqual(len(rows), 400)
            for number, row in enumerate(rows, start=1):
                with self.subTest(file=path.name, row=number):
                    self.assertLessEqual(len(row), 120)
                    self.assertTrue(all(" " <= sign <= "~" for sign in row))

    def test_functions_are_small(self):
        for node in self.nodes():
            if isinstance(node, ast.FunctionDef):
                with self.subTest(function=node.name):
                    self.assertLessEqual(node.end_lineno - node.lineno + 1, 40)

    def test_nothing_is_imported(self):
        for node in self.nodes():
            self.assertNotIsInstance(node, (ast.Import, ast.ImportFrom))

    def test_no_other_name_of_python_is_used(self):
        bound = set()
        read = set()
        for node in self.nodes():
            if isinstance(node, (ast.FunctionDef, ast.ClassDef)):
                bound.add(node.name)
            elif isinstance(node, ast.arg):
                bound.add(node.arg)
            elif isinstance(node, ast.Name):
                (read if isinstance(node.ctx, ast.Load) else bound).add(node.id)
        self.assertEqual(read - bound - OWN_NAMES_OF_PYTHON, set())

    def nodes(self):
        for path in FILES:
            yield from ast.walk(ast.parse(path.read_text(encoding="utf-8")))


if __name__ == "__main__":
    unittest.main()
