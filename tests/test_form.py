"""The package's own files keep to the small part of Python they are written in (as far as this sees)."""

import ast
import builtins
import pathlib
import re
import unittest

PACKAGE = pathlib.Path(__file__).resolve().parent.parent / "severalwindows"

NODES = """
    Module Expr Constant ImportFrom alias FunctionDef ClassDef arguments arg Lambda Name Load Store Attribute Subscript
    Slice Assign AugAssign If While For Return Break Continue Pass Raise Try ExceptHandler Call keyword List Tuple Dict
    Set ListComp comprehension BinOp UnaryOp BoolOp Compare IfExp JoinedStr FormattedValue Add Sub Mult FloorDiv Mod
    BitAnd BitOr BitXor LShift RShift Invert Not USub UAdd And Or Eq NotEq Lt LtE Gt GtE In NotIn Is IsNot
""".split()

OWN_NAMES = """
    len range enumerate zip min max sum abs sorted reversed int str bool list tuple dict set frozenset isinstance ord
    repr any all divmod Exception ValueError TypeError KeyError IndexError LookupError ZeroDivisionError
    ArithmeticError OverflowError RuntimeError NotImplementedError AttributeError StopIteration
""".split()

METHODS = """
    append clear copy count endswith extend find get index insert isalnum isalpha isdigit islower isspace isupper items
    join keys ljust lower lstrip partition pop remove replace reverse rfind rjust rpartition rsplit rstrip setdefault
    split splitlines startswith strip update upper values zfill bit_length
""".split()

WORDS = """
    type typing typing_extensions enum Enum IntEnum StrEnum Flag IntFlag Generic Protocol ABC ABCMeta namedtuple
    NamedTuple TypedDict TYPE_CHECKING abstractmethod
""".split()

UNUSED = "register mro elements open input version_info with_traceback add_note format format_map".split()


def sources():
    return [(path.name, path.read_text(encoding="utf-8")) for path in sorted(PACKAGE.glob("*.py"))]


def nodes():
    return [(name, node) for name, text in sources() for node in ast.walk(ast.parse(text))]


class Form(unittest.TestCase):

    def test_only_python_files_lie_there(self):
        found = [path.name for path in PACKAGE.iterdir() if path.name != "__pycache__"]
        self.assertIn("__init__.py", found)
        for name in found:
            self.assertRegex(name, r"^[a-z0-9_]+\.py$")

    def test_rows_and_signs(self):
        for name, text in sources():
            self.assertLessEqual(text.count("\n"), 400, name)
            self.assertRegex(text, r"\A[ -~\n]*\Z", name)
            for row in text.split("\n"):
                self.assertLessEqual(len(row), 120, (name, row))
            for word in re.findall(r"\w+", text):
                self.assertNotIn(word, WORDS, name)

    def test_nothing_but_the_small_part(self):
        for name, node in nodes():
            kind = node.__class__.__name__
            self.assertIn(kind, NODES, (name, getattr(node, "lineno", 0)))
            if kind == "Constant":
                self.assertIn(node.value.__class__, (int, str, bool, None.__class__), name)
            if kind == "FunctionDef":
                self.assertLessEqual(node.end_lineno - node.lineno + 1, 40, (name, node.name))
                self.assertEqual(node.decorator_list, [], (name, node.name))
            if kind == "Assign":
                self.assertEqual(len(node.targets), 1, (name, node.lineno))
            if kind in ("For", "While"):
                self.assertEqual(node.orelse, [], (name, node.lineno))

    def test_imports_draw_on_the_package_alone(self):
        for name, node in nodes():
            if isinstance(node, ast.ImportFrom):
                self.assertEqual(node.level, 0, name)
                self.assertRegex(node.module, r"^severalwindows\.", name)

    def test_names(self):
        for name, node in nodes():
            if isinstance(node, ast.Name):
                self.assertFalse(node.id.startswith("_"), (name, node.id))
                self.assertNotIn(node.id, UNUSED, name)
                if hasattr(builtins, node.id):
                    self.assertIn(node.id, OWN_NAMES, name)
                    self.assertIsInstance(node.ctx, ast.Load, (name, node.id))
            if isinstance(node, ast.arg):
                self.assertFalse(hasattr(builtins, node.arg), (name, node.arg))

    def test_methods(self):
        own = [node.name for name, node in nodes() if isinstance(node, ast.FunctionDef)]
        for name, node in nodes():
            if isinstance(node, ast.Attribute):
                self.assertNotIn(node.attr, UNUSED, name)
            if isinstance(node, ast.Call) and isinstance(node.func, ast.Attribute):
                self.assertIn(node.func.attr, METHODS + own, name)


if __name__ == "__main__":
    unittest.main()
