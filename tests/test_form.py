"""The package's own files keep to the small part of Python they are written in (as far as this sees)."""

import ast
import builtins
import pathlib
import re
import unittest

PACKAGE = pathlib.Path(__file__).resolve().parent.parent / "severalwindows"

NODES = """
    Module Expr Constant ImportFrom alias FunctionDef ClassDef arguments arg Lambda Name Load Store Attribute Subscript
    Slice Assign AugAssign If While For Return Break Continue Pass Raise Try ExceptHandler Call keyword List Tuple Dict
    Set ListComp comprehension BinOp UnaryOp BoolOp Compare IfExp JoinedStr FormattedValue Add Sub Mult FloorDiv Mod
    BitAnd BitOr BitXor LShift RShift Invert Not USub UAdd And Or Eq NotEq Lt LtE Gt GtE In NotIn Is IsNot
""".split()

OWN_NAMES = """
    len range enumerate zip min max sum abs sorted reversed int str bool list tuple dict set frozenset isinstance ord
    repr any all divmod Exception ValueError TypeError KeyError IndexError LookupError ZeroDivisionError
    ArithmeticError OverflowError RuntimeError NotImplementedError AttributeError StopIteration
""".split()

METHODS = """
    append clear copy count endswith extend find get index insert isalnum isalpha isdigit islower isspace isupper items
    join keys ljust lower lstrip partition pop remove replace reverse rfind rjust rpartition rsplit rstrip setdefault
    split splitlines startswith strip update upper values zfill bit_length
""".split()

WORDS = """
    type typing typing_extensions enum Enum IntEnum StrEnum Flag IntFlag Generic Protocol ABC ABCMeta namedtuple
    NamedTuple TypedDict TYPE_CHECKING abstractmethod
""".split()

UNUSED = "register mro elements open input version_info with_traceback add_note format format_map".split()

UNUSED_NAMES = """
    attrgetter breakpoint builtins compile copyright credits delattr dir eval exec exit gc getattr globals hasattr help
    id importlib license locals methodcaller os quit setattr super type vars sys
""".split()

CHANGES = "append clear extend insert pop remove reverse setdefault update".split()
WALKED = "zip enumerate reversed range items keys values".split()
WALKERS = "list tuple dict sorted sum any all enumerate zip min max".split()


def sources():
    return [(path.name, path.read_text(encoding="utf-8")) for path in sorted(PACKAGE.glob("*.py"))]


def trees():
    return [(name, ast.parse(text)) for name, text in sources()]


def called(node):
    """The name by which a call calls, be it a function's or a method's."""
    return getattr(node.func, "id", getattr(node.func, "attr", None))


def bound_at_the_top(tree):
    found = []
    for node in tree.body:
        if isinstance(node, (ast.FunctionDef, ast.ClassDef)):
            found.append(node.name)
        if isinstance(node, ast.ImportFrom):
            found.extend(alias.asname or alias.name for alias in node.names)
        if isinstance(node, ast.Assign):
            found.append(node.targets[0].id)
    return found


def bound_within(function):
    """Parameters and locals."""
    inside = list(ast.walk(function))
    stored = [node.id for node in inside if isinstance(node, ast.Name) and isinstance(node.ctx, ast.Store)]
    return stored + [node.arg for node in inside if isinstance(node, ast.arg)]


def nodes():
    return [(name, node) for name, text in sources() for node in ast.walk(ast.parse(text))]


class Form(unittest.TestCase):

    def test_only_python_files_lie_there(self):
        found = [path.name for path in PACKAGE.iterdir() if path.name != "__pycache__"]
        self.assertIn("__init__.py", found)
        for name in found:
            self.assertRegex(name, r"^[a-z0-9_]+\.py$")

    def test_rows_and_signs(self):
        for name, text in sources():
            self.assertLessEqual(text.count("\n"), 400, name)
            self.assertRegex(text, r"\A[ -~\n]*\Z", name)
            for row in text.split("\n"):
                self.assertLessEqual(len(row), 120, (name, row))
            for word in re.findall(r"\w+", text):
                self.assertNotIn(word, WORDS, name)

    def test_nothing_but_the_small_part(self):
        for name, node in nodes():
            kind = node.__class__.__name__
            self.assertIn(kind, NODES, (name, getattr(node, "lineno", 0)))
            if kind == "Constant":
                self.assertIn(node.value.__class__, (int, str, bool, None.__class__), name)
            if kind == "FunctionDef":
                self.assertLessEqual(node.end_lineno - node.lineno + 1, 40, (name, node.name))
                self.assertEqual(node.decorator_list, [], (name, node.name))
            if kind == "Assign":
                self.assertEqual(len(node.targets), 1, (name, node.lineno))
            if kind in ("For", "While"):
                self.assertEqual(node.orelse, [], (name, node.lineno))

    def test_imports_draw_on_the_package_alone(self):
        for name, node in nodes():
            if isinstance(node, ast.ImportFrom):
                self.assertEqual(node.level, 0, name)
                self.assertRegex(node.module, r"^severalwindows\.", name)

    def test_names(self):
        for name, node in nodes():
            if isinstance(node, ast.Name):
                self.assertFalse(node.id.startswith("_"), (name, node.id))
                self.assertNotIn(node.id, UNUSED, name)
                if hasattr(builtins, node.id):
                    self.assertIn(node.id, OWN_NAMES, name)
                    self.assertIsInstance(node.ctx, ast.Load, (name, node.id))
            if isinstance(node, ast.arg):
                self.assertFalse(hasattr(builtins, node.arg), (name, node.arg))

    def test_methods(self):
        own = [node.name for name, node in nodes() if isinstance(node, ast.FunctionDef)]
        for name, node in nodes():
            if isinstance(node, ast.Attribute):
                self.assertNotIn(node.attr, UNUSED, name)
            if isinstance(node, ast.Call) and isinstance(node.func, ast.Attribute):
                self.assertIn(node.func.attr, METHODS + own, name)

    def test_names_are_plain_words(self):
        for name, node in nodes():
            words = [getattr(node, field, None) for field in ("id", "arg", "attr", "name")]
            for word in [word for word in words if isinstance(word, str) and word != "__init__"]:
                self.assertRegex(word, r"^[A-Za-z][A-Za-z0-9_]*$", name)
                self.assertNotIn(word, UNUSED, name)
            if isinstance(node, ast.Name):
                self.assertNotIn(node.id, UNUSED_NAMES, name)

    def test_each_name_once_at_the_top(self):
        for name, tree in trees():
            found = bound_at_the_top(tree)
            self.assertEqual(sorted(found), sorted(set(found)), name)
            for node in tree.body:
                kinds = (ast.Expr, ast.ImportFrom, ast.FunctionDef, ast.ClassDef, ast.Assign)
                self.assertIsInstance(node, kinds, (name, node.lineno))

    def test_locals_are_called_like_nothing_else(self):
        for name, tree in trees():
            top = bound_at_the_top(tree)
            for node in ast.walk(tree):
                if isinstance(node, ast.FunctionDef):
                    for word in bound_within(node):
                        self.assertNotIn(word, top, (name, node.name))
                        self.assertFalse(hasattr(builtins, word), (name, node.name, word))

    def test_what_stands_at_the_top_is_not_changed(self):
        for name, tree in trees():
            top = bound_at_the_top(tree)
            for node in ast.walk(tree):
                if isinstance(node, ast.Call) and isinstance(node.func, ast.Attribute):
                    if called(node) in CHANGES:
                        self.assertNotIn(getattr(node.func.value, "id", None), top, (name, node.lineno))
                if isinstance(node, ast.Subscript) and isinstance(node.ctx, ast.Store):
                    self.assertNotIn(getattr(node.value, "id", None), top, (name, node.lineno))

    def test_imports_are_defined_where_they_come_from_and_go_one_way(self):
        draws = {}
        found = {name: tree for name, tree in trees()}
        for name, tree in found.items():
            draws[name] = set()
            for node in tree.body:
                if isinstance(node, ast.ImportFrom):
                    source = node.module.split(".")[1] + ".py"
                    draws[name].add(source)
                    own = [part.name for part in found[source].body if hasattr(part, "name")]
                    for alias in node.names:
                        self.assertIn(alias.name, own, name)
        while draws:
            ends = [name for name in draws if not draws[name] & set(draws)]
            self.assertNotEqual(ends, [], draws)
            for name in ends:
                draws.pop(name)

    def test_no_name_is_a_method_here_and_a_value_there(self):
        methods = set()
        values = set()
        for name, node in nodes():
            if isinstance(node, ast.ClassDef):
                own = [part.name for part in node.body if isinstance(part, ast.FunctionDef)]
                self.assertEqual(len(own), len(set(own)), (name, node.name))
                methods.update(own)
            if isinstance(node, ast.Attribute) and isinstance(node.ctx, ast.Store):
                values.add(node.attr)
        self.assertEqual(methods & values, set())
        for word in values | methods - {"__init__"}:
            for kind in (str, int, list, dict, set, bytes, tuple):
                self.assertFalse(hasattr(kind, word), word)

    def test_is_annotations_texts_and_comprehensions(self):
        for name, node in nodes():
            place = (name, getattr(node, "lineno", 0))
            if isinstance(node, ast.Compare) and any(isinstance(op, (ast.Is, ast.IsNot)) for op in node.ops):
                self.assertIsInstance(node.comparators[0], ast.Constant, place)
            if isinstance(node, ast.arg):
                self.assertIsNone(node.annotation, place)
            if isinstance(node, ast.FunctionDef):
                self.assertIsNone(node.returns, place)
            if isinstance(node, ast.Constant) and isinstance(node.value, str):
                self.assertNotIn("%", node.value, place)
            if isinstance(node, ast.ListComp):
                self.assertEqual(len(node.generators), 1, place)
                self.assertLessEqual(len(node.generators[0].ifs), 1, place)

    def test_what_is_walked_is_walked_at_once(self):
        for name, tree in trees():
            allowed = []
            for node in ast.walk(tree):
                if isinstance(node, (ast.For, ast.comprehension)):
                    allowed.append(node.iter)
                if isinstance(node, ast.Call) and called(node) in WALKERS:
                    allowed.extend(node.args[:1])
            for node in ast.walk(tree):
                if isinstance(node, ast.Call) and called(node) in WALKED:
                    self.assertIn(node, allowed, (name, node.lineno))


if __name__ == "__main__":
    unittest.main()
