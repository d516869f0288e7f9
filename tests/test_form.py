"""The form of the package's files: the rules of its part of Python that can be seen from outside."""

import ast
import pathlib
import re
import unittest

PACKAGE = pathlib.Path(__file__).resolve().parent.parent / "reasonhall"
NODES = """Module Expr Constant FunctionDef arguments arg ClassDef ImportFrom alias Assign Name Load Store Attribute
    If While For Return Break Continue Pass Raise Try ExceptHandler Call keyword Compare BoolOp And Or UnaryOp Not
    USub Invert BinOp Add Sub Mult FloorDiv Mod BitAnd BitOr BitXor LShift RShift IfExp Subscript Slice ListComp
    comprehension List Tuple Dict Lambda Eq NotEq Lt LtE Gt GtE In NotIn Is IsNot""".split()
OWN = """len range enumerate zip min max sum abs sorted reversed int str bool list tuple dict set frozenset isinstance
    ord repr any all divmod Exception ValueError KeyError IndexError LookupError ZeroDivisionError""".split()
METHODS = """append clear copy count endswith extend find get index insert isalnum isalpha isdigit islower isspace
    isupper items join keys ljust lower lstrip partition pop remove replace reverse rfind rjust rpartition rsplit rstrip
    setdefault split splitlines startswith strip update upper values zfill bit_length""".split()
WORDS = """type typing typing_extensions enum Enum IntEnum StrEnum Flag IntFlag Generic Protocol ABC ABCMeta namedtuple
    NamedTuple TypedDict TYPE_CHECKING abstractmethod register mro elements open input""".split()
BUILTINS = dir(__builtins__) if not isinstance(__builtins__, dict) else list(__builtins__)


class Form(unittest.TestCase):
    def setUp(self):
        self.files = sorted(path for path in PACKAGE.iterdir() if path.name != "__pycache__")
        self.trees = [(path.name, ast.parse(path.read_text("utf-8"))) for path in self.files]
        self.nodes = [(name, node) for name, tree in self.trees for node in ast.walk(tree)]

    def test_files(self):
        self.assertIn("desk.py", [path.name for path in self.files])
        for path in self.files:
            self.assertRegex(path.name, r"^(__init__|[a-z][a-z0-9_]*)\.py$")
            text = path.read_text("utf-8")
            self.assertRegex(text, r"\A[ -~\n]*\Z", path.name)
            self.assertLessEqual(text.count("\n"), 400, path.name)
            self.assertLessEqual(max(len(row) for row in text.split("\n")), 120, path.name)
            self.assertEqual([word for word in WORDS if re.search(rf"\b{word}\b", text)], [], path.name)

    def test_functions_are_short(self):
        for name, node in self.nodes:
            if isinstance(node, ast.FunctionDef):
                self.assertLessEqual(node.end_lineno - node.lineno + 1, 40, (name, node.name))
                self.assertEqual(node.decorator_list, [])

    def test_statements_and_expressions(self):
        for name, node in self.nodes:
            self.assertIn(node.__class__.__name__, NODES, (name, getattr(node, "lineno", 0)))
            if isinstance(node, ast.Assign):
                self.assertEqual(len(node.targets), 1)
                self.assertNotIsInstance(node.targets[0], ast.Tuple, (name, node.lineno))
            if isinstance(node, ast.Constant) and isinstance(node.value, str):
                self.assertNotIn("%", node.value, name)

    def test_imports_are_the_packages_own(self):
        for name, node in self.nodes:
            if isinstance(node, ast.ImportFrom):
                self.assertTrue(node.module.startswith("reasonhall."), (name, node.module))
                source = ast.parse((PACKAGE / (node.module.split(".")[1] + ".py")).read_text("utf-8"))
                bound = [one.name for one in source.body if isinstance(one, (ast.FunctionDef, ast.ClassDef))]
                bound += [one.targets[0].id for one in source.body if isinstance(one, ast.Assign)]
                for drawn in node.names:
                    self.assertIn(drawn.name, bound, name)
                    self.assertIsNone(drawn.asname)

    def test_names(self):
        for name, node in self.nodes:
            if isinstance(node, ast.Name) and node.id in BUILTINS:
                self.assertIn(node.id, OWN, (name, node.lineno))
                self.assertIsInstance(node.ctx, ast.Load, (name, node.lineno))
            if isinstance(node, ast.arg):
                self.assertNotIn(node.arg, BUILTINS, (name, node.lineno))
            if isinstance(node, ast.Call) and isinstance(node.func, ast.Attribute):
                self.assertIn(node.func.attr, METHODS, (name, node.lineno))


if __name__ == "__main__":
    unittest.main()
