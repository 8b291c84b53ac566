"""The package keeps to the part of Python that it is written in, as far as that is quickly seen."""

import ast
import builtins
import pathlib
import re
import unittest

PACKAGE = pathlib.Path(__file__).resolve().parent.parent / "wholesays"

OWN_NAMES = """len range enumerate zip min max sum abs sorted reversed int str bool list tuple dict set frozenset
isinstance ord repr any all divmod Exception ValueError TypeError KeyError IndexError LookupError ZeroDivisionError
ArithmeticError OverflowError RuntimeError NotImplementedError AttributeError StopIteration""".split()

METHODS = """append clear copy count endswith extend find get index insert isalnum isalpha isdigit islower isspace isupper
items join keys ljust lower lstrip partition pop remove replace reverse rfind rjust rpartition rsplit rstrip setdefault
split splitlines startswith strip update upper values zfill bit_length""".split()

WORDS = """type typing typing_extensions enum Enum IntEnum StrEnum Flag IntFlag Generic Protocol ABC ABCMeta namedtuple
NamedTuple TypedDict TYPE_CHECKING abstractmethod""".split()

NODES = """Module Expr Constant Assign AugAssign Name Load Store Tuple List Dict ClassDef FunctionDef arguments arg Return
If While For Break Continue Pass Raise Try ExceptHandler Call Attribute Subscript Slice BinOp UnaryOp BoolOp Compare IfExp
ListComp comprehension keyword Lambda JoinedStr FormattedValue ImportFrom alias Add Sub Mult FloorDiv Mod Pow USub Not And
Or Eq NotEq Lt LtE Gt GtE In NotIn Is IsNot BitAnd BitOr BitXor LShift RShift Invert""".split()


def sources():
    return [(path, path.read_text(encoding="utf-8")) for path in sorted(PACKAGE.glob("*.py"))]


class Form(unittest.TestCase):
    def test_only_python_files(self):
        names = [path.name for path in PACKAGE.iterdir() if path.name != "__pycache__"]
        self.assertIn("__init__.py", names)
        self.assertIn("sentences.py", names)
        for name in names:
            self.assertRegex(name, r"\A[a-z0-9_]+\.py\Z")

    def test_size_and_signs(self):
        for path, text in sources():
            self.assertRegex(text, r"\A[ -~\n]*\Z", path)
            lines = text.split("\n")
            self.assertLessEqual(len(lines), 400, path)
            self.assertLessEqual(max(len(line) for line in lines), 120, path)
            for node in ast.walk(ast.parse(text)):
                if isinstance(node, ast.FunctionDef):
                    self.assertLessEqual(node.end_lineno - node.lineno + 1, 40, node.name)

    def test_words(self):
        for path, text in sources():
            for word in WORDS:
                self.assertIsNone(re.search(rf"\b{word}\b", text), (path, word))

    def test_kinds_of_code(self):
        for path, text in sources():
            for node in ast.walk(ast.parse(text)):
                self.assertIn(node.__class__.__name__, NODES, (path, getattr(node, "lineno", None)))
                if isinstance(node, ast.Assign):
                    self.assertEqual(len(node.targets), 1, (path, node.lineno))
                if isinstance(node, ast.Constant) and isinstance(node.value, str):
                    self.assertNotIn("%", node.value, (path, node.lineno))

    def test_names(self):
        for path, text in sources():
            tree = ast.parse(text)
            own = {node.name for node in ast.walk(tree) if isinstance(node, (ast.FunctionDef, ast.ClassDef))}
            own |= {node.attr for node in ast.walk(tree) if isinstance(node, ast.Attribute) and isinstance(node.ctx, ast.Store)}
            for node in ast.walk(tree):
                if isinstance(node, ast.Name) and hasattr(builtins, node.id):
                    self.assertIn(node.id, OWN_NAMES, (path, node.lineno))
                    self.assertIsInstance(node.ctx, ast.Load, (path, node.lineno))
                if isinstance(node, ast.arg):
                    self.assertFalse(hasattr(builtins, node.arg), (path, node.lineno))
                if isinstance(node, ast.Attribute):
                    self.assertIn(node.attr, own | set(METHODS), (path, node.lineno))

    def test_plain_names(self):
        for path, text in sources():
            for node in ast.walk(ast.parse(text)):
                for name in [getattr(node, part, None) for part in ("id", "arg", "attr", "name")]:
                    if isinstance(name, str) and name != "__init__":
                        self.assertRegex(name, r"\A[A-Za-z][A-Za-z0-9_]*\Z", (path, node.lineno))

    def test_top_is_bound_once(self):
        for path, text in sources():
            top = [node for node in ast.parse(text).body if not isinstance(node, (ast.Expr, ast.ImportFrom))]
            names = [node.targets[0].id if isinstance(node, ast.Assign) else node.name for node in top]
            self.assertEqual(len(names), len(set(names)), path)
            for node in top:
                if isinstance(node, ast.Assign):
                    ast.literal_eval(node.value)

    def test_functions_are_plain(self):
        for path, text in sources():
            for node in ast.walk(ast.parse(text)):
                if isinstance(node, ast.FunctionDef):
                    spec = node.args
                    self.assertEqual((node.decorator_list, spec.vararg, spec.kwarg, spec.kwonlyargs, spec.posonlyargs),
                                     ([], None, None, [], []), (path, node.lineno))
                if isinstance(node, ast.ClassDef):
                    self.assertEqual(node.decorator_list, [], (path, node.lineno))
                    self.assertLessEqual(len(node.bases), 1, (path, node.lineno))

    def test_forms_within(self):
        for path, text in sources():
            for node in ast.walk(ast.parse(text)):
                if isinstance(node, ast.ListComp):
                    self.assertEqual(len(node.generators), 1, (path, node.lineno))
                    self.assertLessEqual(len(node.generators[0].ifs), 1, (path, node.lineno))
                if isinstance(node, ast.Compare) and isinstance(node.ops[0], (ast.Is, ast.IsNot)):
                    self.assertIsInstance(node.comparators[0], ast.Constant, (path, node.lineno))
                if isinstance(node, (ast.For, ast.While)):
                    self.assertEqual(node.orelse, [], (path, node.lineno))
                if isinstance(node, ast.Try):
                    self.assertEqual(node.finalbody, [], (path, node.lineno))

    def test_imports_nothing_from_outside(self):
        for path, text in sources():
            for node in ast.walk(ast.parse(text)):
                self.assertNotIsInstance(node, ast.Import, path)
                if isinstance(node, ast.ImportFrom):
                    self.assertRegex(node.module or "", r"\Awholesays\.", path)


if __name__ == "__main__":
    unittest.main()
