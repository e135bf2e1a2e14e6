"""The parts of the language rules that can be seen without much ado."""

import ast
import builtins
import pathlib
import re
import unittest

PACKAGE = pathlib.Path(__file__).resolve().parent.parent / "snowploughs"
FILES = sorted(PACKAGE.glob("*.py"))
OWN_NAMES_OF_PYTHON = {
    "len", "range", "enumerate", "zip", "min", "max", "sum", "abs", "sorted", "reversed", "int", "str", "bool", "list",
    "tuple", "dict", "set", "frozenset", "isinstance", "ord", "repr", "any", "all", "divmod", "Exception",
}
METHODS_OF_PYTHON = set(
    "append clear copy count endswith extend find get index insert isalnum isalpha isdigit islower isspace isupper"
    " items join keys ljust lower lstrip partition pop remove replace reverse rfind rjust rpartition rsplit rstrip"
    " setdefault split splitlines startswith strip update upper values zfill bit_length".split()
)
FORMS = (
    ast.Module, ast.FunctionDef, ast.ClassDef, ast.arguments, ast.arg, ast.Assign, ast.AugAssign, ast.If, ast.While,
    ast.For, ast.Return, ast.Break, ast.Continue, ast.Pass, ast.Raise, ast.Try, ast.ExceptHandler, ast.Expr, ast.Call,
    ast.keyword, ast.Constant, ast.Name, ast.Attribute, ast.Subscript, ast.Slice, ast.List, ast.Tuple, ast.Dict,
    ast.BinOp, ast.UnaryOp, ast.BoolOp, ast.Compare, ast.IfExp, ast.ListComp, ast.comprehension, ast.JoinedStr,
    ast.FormattedValue, ast.Lambda, ast.expr_context, ast.boolop, ast.operator, ast.unaryop, ast.cmpop,
)
WORDS_OUT = re.compile(
    r"\b(type|typing|typing_extensions|[eE]num|IntEnum|StrEnum|Flag|IntFlag|Generic|Protocol|ABC|ABCMeta|namedtuple"
    r"|NamedTuple|TypedDict|TYPE_CHECKING|abstractmethod)\b|dataclass|overload|contextmanager"
)


class FormTest(unittest.TestCase):
    def test_the_files_of_the_package(self):
        names = sorted(path.name for path in PACKAGE.iterdir() if path.name != "__pycache__")
        self.assertEqual(names, ["__init__.py", "service.py"])

    def test_signs_and_sizes(self):
        for path in FILES:
            rows = path.read_text(encoding="utf-8").split("\n")
            self.assertLessEqual(len(rows), 400)
            for number, row in enumerate(rows, start=1):
                with self.subTest(file=path.name, row=number):
                    self.assertLessEqual(len(row), 120)
                    self.assertTrue(all(" " <= sign <= "~" for sign in row))
                    self.assertIsNone(WORDS_OUT.search(row))

    def test_functions_are_small(self):
        for node in self.nodes(ast.FunctionDef):
            with self.subTest(function=node.name):
                self.assertLessEqual(node.end_lineno - node.lineno + 1, 40)

    def test_nothing_is_imported(self):
        self.assertEqual(list(self.nodes((ast.Import, ast.ImportFrom))), [])

    def test_statements_and_expressions(self):
        for node in self.nodes(ast.AST):
            with self.subTest(node=ast.dump(node)):
                self.assertIsInstance(node, FORMS)
                self.assertNotIsInstance(node, (ast.Div, ast.MatMult, ast.Pow, ast.Is, ast.IsNot))
                if isinstance(node, ast.Constant):
                    self.assertIn(type(node.value), (int, str, bool, type(None)))
                if isinstance(node, ast.Assign):
                    self.assertEqual(len(node.targets), 1)
                    self.assertNotIsInstance(node.targets[0], (ast.Tuple, ast.List))
                if isinstance(node, (ast.For, ast.While)):
                    self.assertEqual(node.orelse, [])
                if isinstance(node, ast.ListComp):
                    self.assertEqual(len(node.generators), 1)
                    self.assertLessEqual(len(node.generators[0].ifs), 1)

    def test_functions_take_plain_parameters(self):
        for node in self.nodes(ast.FunctionDef):
            with self.subTest(function=node.name):
                given = node.args
                self.assertEqual((given.vararg, given.kwarg, given.kwonlyargs, given.posonlyargs), (None, None, [], []))
                self.assertEqual(node.decorator_list, [])
                self.assertIsNone(node.returns)

    def test_the_top_of_a_file(self):
        for path in FILES:
            bound = []
            for node in ast.parse(path.read_text(encoding="utf-8")).body[1:]:
                with self.subTest(file=path.name, row=node.lineno):
                    self.assertIsInstance(node, (ast.Assign, ast.FunctionDef, ast.ClassDef))
                    if isinstance(node, ast.Assign):
                        self.assertIs(type(ast.literal_eval(node.value)), int)
                    bound.append(node.targets[0].id if isinstance(node, ast.Assign) else node.name)
            self.assertEqual(len(bound), len(set(bound)))

    def test_names(self):
        for name in self.bound_names():
            with self.subTest(name=name):
                self.assertNotIn(name, dir(builtins))
                self.assertTrue(name == "__init__" or name[0] != "_")

    def test_no_other_name_of_python_is_used(self):
        read = {node.id for node in self.nodes(ast.Name) if isinstance(node.ctx, ast.Load)}
        self.assertEqual(read - self.bound_names() - OWN_NAMES_OF_PYTHON, set())

    def test_methods_and_values(self):
        bodies = [node for own in self.nodes(ast.ClassDef) for node in own.body]
        methods = {node.name for node in bodies if isinstance(node, ast.FunctionDef)}
        stored = {node.attr for node in self.nodes(ast.Attribute) if isinstance(node.ctx, ast.Store)}
        used = {node.attr for node in self.nodes(ast.Attribute)}
        self.assertEqual(methods & stored, set())
        self.assertEqual(used - methods - stored - METHODS_OF_PYTHON, set())
        for kind in (int, str, list, dict, set, bytes, tuple):
            self.assertEqual((methods | stored) & set(dir(kind)) - {"__init__"}, set())

    def bound_names(self):
        names = {node.name for node in self.nodes((ast.FunctionDef, ast.ClassDef))}
        names |= {node.arg for node in self.nodes(ast.arg)}
        return names | {node.id for node in self.nodes(ast.Name) if isinstance(node.ctx, ast.Store)}

    def nodes(self, kinds):
        for path in FILES:
            for node in ast.walk(ast.parse(path.read_text(encoding="utf-8"))):
                if isinstance(node, kinds):
                    yield node


if __name__ == "__main__":
    unittest.main()
