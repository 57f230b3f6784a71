"""The package keeps to the part of Python that it is written in: what can be seen of that in its text."""

import ast
import builtins
import pathlib
import re
import unittest

FOLDER = pathlib.Path(__file__).resolve().parent.parent / "keptbymany"
PATHS = sorted(FOLDER.rglob("*.py"))
TREES = {path.stem: ast.parse(path.read_text(encoding="utf-8")) for path in PATHS}
NODES = [(name, node) for name in TREES for node in ast.walk(TREES[name])]

ALLOWED_BUILTINS = set(
    "len range enumerate zip min max sum abs sorted reversed int str bool list tuple dict set frozenset isinstance "
    "ord repr any all divmod Exception ValueError TypeError KeyError IndexError LookupError ZeroDivisionError "
    "ArithmeticError OverflowError RuntimeError NotImplementedError StopIteration".split())
ALLOWED_METHODS = set(
    "append clear copy count endswith extend find get index insert isalnum isalpha isdigit islower isspace isupper "
    "items join keys ljust lower lstrip partition pop remove replace reverse rfind rjust rpartition rsplit rstrip "
    "setdefault split splitlines startswith strip update upper values zfill bit_length".split())
FREE_METHODS = ALLOWED_METHODS | {"add", "discard"}
FREE_VALUES = set("count index title find get join lower upper split strip copy add".split())
UNUSED_NAMES = set("register mro elements open input version_info with_traceback add_note format format_map".split())
UNUSED_WORDS = re.compile(
    r"\b(type|typing|typing_extensions|enum|Enum|IntEnum|StrEnum|Flag|IntFlag|Generic|Protocol|ABC|ABCMeta|"
    r"namedtuple|NamedTuple|TypedDict|TYPE_CHECKING|abstractmethod)\b|dataclass|overload|contextmanager")
OUTSIDE = (ast.With, ast.Match, ast.Delete, ast.Global, ast.Nonlocal, ast.Assert, ast.Yield, ast.YieldFrom,
           ast.AsyncFunctionDef, ast.AsyncFor, ast.AsyncWith, ast.Await, ast.AnnAssign, ast.Starred, ast.NamedExpr,
           ast.SetComp, ast.DictComp, ast.GeneratorExp, ast.Div, ast.MatMult, ast.Import)


def own(kind):
    return [node for _, node in NODES if isinstance(node, kind)]


def bound_names():
    names = [node.id for node in own(ast.Name) if isinstance(node.ctx, ast.Store)]
    return names + [node.arg for node in own(ast.arg)]


def own_methods():
    return {part.name for node in own(ast.ClassDef) for part in node.body if isinstance(part, ast.FunctionDef)}


def own_values():
    return {node.attr for node in own(ast.Attribute) if isinstance(node.ctx, ast.Store)}


def of_python():
    return {name for kind in (str, int, list, dict, set, bytes, tuple) for name in dir(kind)}


class Language(unittest.TestCase):
    def test_files(self):
        found = [path for path in FOLDER.rglob("*") if "__pycache__" not in path.parts]
        self.assertEqual(sorted(found), PATHS)
        self.assertIn("__init__", TREES)
        for name in TREES:
            self.assertRegex(name, r"^([a-z][a-z0-9_]*|__init__)$")
            self.assertTrue(name == "__init__" or not hasattr(builtins, name), name)

    def test_signs_words_and_sizes(self):
        for path in PATHS:
            content = path.read_bytes().decode("ascii")
            self.assertRegex(content, r"\A[ -~\n]*\Z", path)
            self.assertIsNone(UNUSED_WORDS.search(content), path)
            self.assertLessEqual(len(content.splitlines()), 400, path)
            self.assertLessEqual(max(len(line) for line in content.splitlines()), 120, path)
        for node in own(ast.FunctionDef):
            self.assertLessEqual(node.end_lineno - node.lineno + 1, 40, node.name)

    def test_forms(self):
        for name, node in NODES:
            self.assertNotIsInstance(node, OUTSIDE, name)
            if isinstance(node, ast.Assign):
                self.assertEqual(len(node.targets), 1, name)
                self.assertNotIsInstance(node.targets[0], (ast.Tuple, ast.List), name)
            if isinstance(node, (ast.For, ast.While, ast.Try)):
                self.assertFalse(getattr(node, "finalbody", []) or (node.orelse and not isinstance(node, ast.Try)))
            if isinstance(node, (ast.FunctionDef, ast.ClassDef)):
                self.assertEqual(node.decorator_list, [], name)
            if isinstance(node, ast.ListComp):
                self.assertEqual(len(node.generators), 1, name)
                self.assertLessEqual(len(node.generators[0].ifs), 1, name)
            if isinstance(node, ast.Constant):
                self.assertIn(type(node.value), (int, str, bool, type(None)), name)
            if isinstance(node, ast.Compare) and any(isinstance(op, (ast.Is, ast.IsNot)) for op in node.ops):
                self.assertIsInstance(node.comparators[0], ast.Constant, name)

    def test_imports_are_own_and_draw_no_ring(self):
        drawn = {name: set() for name in TREES}
        for name, node in NODES:
            if isinstance(node, ast.ImportFrom):
                self.assertIn(node, TREES[name].body)
                package, source = node.module.split(".")
                self.assertEqual((package, node.level), ("keptbymany", 0))
                drawn[name].add(source)
                defined = {part.name for part in TREES[source].body if hasattr(part, "name")}
                defined |= {part.targets[0].id for part in TREES[source].body if isinstance(part, ast.Assign)}
                self.assertLessEqual({alias.name for alias in node.names}, defined, name)
        self.assertEqual(drawn["__init__"], set())
        while drawn:
            free = [name for name in drawn if not drawn[name] & set(drawn)]
            self.assertTrue(free, "files draw from one another in a ring")
            drawn = {name: drawn[name] for name in drawn if name not in free}

    def test_tops(self):
        allowed = (ast.ImportFrom, ast.FunctionDef, ast.ClassDef, ast.Assign)
        for name in TREES:
            self.assertIsNotNone(ast.get_docstring(TREES[name]), name)
            for part in TREES[name].body[1:]:
                self.assertIsInstance(part, allowed, name)

    def test_names(self):
        for name in bound_names():
            self.assertRegex(name, r"^[A-Za-z][A-Za-z0-9_]*$")
            self.assertFalse(hasattr(builtins, name), name)
        for name in [node.id for node in own(ast.Name)]:
            self.assertTrue(name in ALLOWED_BUILTINS or not hasattr(builtins, name), name)
        used = set(bound_names()) | own_methods() | own_values() | {node.attr for node in own(ast.Attribute)}
        self.assertEqual(used & UNUSED_NAMES, set())

    def test_methods_and_values(self):
        self.assertEqual(own_methods() & own_values(), set())
        self.assertEqual((own_methods() - {"__init__"} - FREE_METHODS) & of_python(), set())
        self.assertEqual((own_values() - FREE_VALUES) & of_python(), set())
        for node in own(ast.Attribute):
            self.assertIn(node.attr, ALLOWED_METHODS | own_methods() | own_values())
