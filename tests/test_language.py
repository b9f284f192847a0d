"""The package keeps to the subset of the language: the rules that can be seen in the code by simple means."""

import ast
import builtins
import pathlib
import re
import unittest

PACKAGE = pathlib.Path(__file__).resolve().parent.parent / "kindalone"
FILES = sorted(PACKAGE.rglob("*.py"))
BUILTINS = set("""len range enumerate zip min max sum abs sorted reversed int str bool bytes list tuple dict set
frozenset isinstance ord repr any all divmod iter next super property staticmethod classmethod Exception
ValueError TypeError KeyError IndexError LookupError ZeroDivisionError ArithmeticError OverflowError RuntimeError
NotImplementedError AttributeError StopIteration NotImplemented""".split())
METHODS = set("""append clear copy count endswith extend find get index insert isalnum isalpha isdigit islower isspace
isupper items join keys ljust lower lstrip partition pop remove replace reverse rfind rjust rpartition rsplit rstrip
setdefault split splitlines startswith strip update upper values zfill bit_length add discard sort""".split())
BARRED_NAMES = {"register", "mro", "elements", "open", "input", "law", "version_info", "with_traceback", "add_note"}
BARRED_WORDS = re.compile(r"\b(type|typing|typing_extensions|enum|Enum|IntEnum|StrEnum|Flag|IntFlag|Generic|Protocol|"
                          r"ABC|ABCMeta|namedtuple|NamedTuple|TypedDict|TYPE_CHECKING|abstractmethod)\b|"
                          r"dataclass|overload|contextmanager")
FUNCTIONS = (ast.FunctionDef, ast.AsyncFunctionDef)
BARRED_NODES = (ast.Global, ast.AsyncFunctionDef, ast.AsyncFor, ast.AsyncWith, ast.Await, ast.Import, ast.Div)


def tree_of(path):
    return ast.parse(path.read_text())


def module_of(path):
    return "kindalone." + path.stem if path.stem != "__init__" else "kindalone"


def bound_at_top(tree):
    """The names bound at module level, each as often as it is."""
    names = []
    for node in tree.body:
        if isinstance(node, (ast.FunctionDef, ast.ClassDef)):
            names.append(node.name)
        if isinstance(node, ast.ImportFrom):
            names.extend(alias.asname or alias.name for alias in node.names)
        if isinstance(node, ast.Assign):
            names.extend(target.id for target in node.targets)
    return names


def is_plain(node, above):
    """Whether a value at module level is written out, of plain values and functions above."""
    if isinstance(node, ast.Dict):
        return all(is_plain(part, above) and not isinstance(part, (ast.List, ast.Dict))
                   for part in node.keys + node.values)
    if isinstance(node, (ast.List, ast.Tuple)):
        return all(is_plain(part, above) and not isinstance(part, (ast.List, ast.Dict)) for part in node.elts)
    if isinstance(node, ast.BinOp):
        return isinstance(node.left, ast.Constant) and isinstance(node.right, ast.Constant)
    return isinstance(node, ast.Constant) or isinstance(node, ast.Name) and node.id in above


class Language(unittest.TestCase):
    def each(self):
        for path in FILES:
            yield path, tree_of(path)

    def test_files(self):
        self.assertTrue((PACKAGE / "__init__.py").exists())
        for path in PACKAGE.rglob("*"):
            if "__pycache__" not in path.parts:
                self.assertRegex(path.name, r"^([a-z][a-z0-9_]*|__init__|__main__)\.py$")

    def test_signs_and_sizes(self):
        for path in FILES:
            text = path.read_text()
            self.assertRegex(text, r"\A[ -~\n]*\Z", path)
            lines = text.splitlines()
            self.assertLess(len(lines), 400, path)
            self.assertEqual([line for line in lines if len(line) > 120], [], path)
            self.assertIsNone(BARRED_WORDS.search(text), path)
            for node in ast.walk(tree_of(path)):
                if isinstance(node, FUNCTIONS):
                    self.assertLessEqual(node.end_lineno - node.lineno + 1, 40, (path, node.name))

    def test_imports(self):
        above = {}
        for path, tree in self.each():
            above[module_of(path)] = []
            for node in ast.walk(tree):
                if isinstance(node, ast.ImportFrom):
                    self.assertIn(node, tree.body, path)
                    self.assertEqual(node.level, 0)
                    self.assertTrue(node.module.startswith("kindalone."), path)
                    defined = [name for name in bound_at_top(tree_of(PACKAGE / (node.module[10:] + ".py")))]
                    for alias in node.names:
                        self.assertIn(alias.name, defined)
                    above[module_of(path)].append(node.module)
        while above:
            free = [module for module in above if not [used for used in above[module] if used in above]]
            self.assertTrue(free, f"a ring of imports among {sorted(above)}")
            for module in free:
                del above[module]

    def test_module_level(self):
        for path, tree in self.each():
            names = bound_at_top(tree)
            self.assertEqual(len(names), len(set(names)), path)
            seen = []
            for node in tree.body:
                if isinstance(node, ast.Assign):
                    self.assertEqual(len(node.targets), 1)
                    self.assertTrue(is_plain(node.value, seen), (path, node.lineno))
                elif isinstance(node, ast.Expr):
                    self.assertIsInstance(node.value, ast.Constant)
                else:
                    self.assertIsInstance(node, (ast.ImportFrom, ast.FunctionDef, ast.ClassDef), path)
                if isinstance(node, ast.FunctionDef):
                    seen.append(node.name)

    def test_nodes(self):
        for path, tree in self.each():
            for node in ast.walk(tree):
                where = (path, getattr(node, "lineno", 0))
                self.assertNotIsInstance(node, BARRED_NODES, where)
                if isinstance(node, ast.Constant):
                    self.assertIsInstance(node.value, (int, str, bytes, bool, type(None)), where)
                    self.assertFalse(isinstance(node.value, str) and "%" in node.value, where)
                if isinstance(node, ast.Compare):
                    for sign, side in zip(node.ops, node.comparators):
                        if isinstance(sign, (ast.Is, ast.IsNot)):
                            self.assertIn(getattr(side, "value", 0), (None, True, False), where)
                if isinstance(node, ast.ExceptHandler):
                    self.assertIsNotNone(node.type, where)

    def test_names(self):
        for path, tree in self.each():
            top = bound_at_top(tree)
            imported = [alias.name for node in tree.body if isinstance(node, ast.ImportFrom) for alias in node.names]
            for node in ast.walk(tree):
                where = (path, getattr(node, "lineno", 0))
                bound = []
                if isinstance(node, ast.Name) and isinstance(node.ctx, ast.Store):
                    bound = [node.id]
                if isinstance(node, ast.arg):
                    bound = [node.arg]
                for name in bound:
                    self.assertNotIn(name, imported, where)
                    self.assertRegex(name, r"^[A-Za-z][A-Za-z0-9_]*$", where)
                if isinstance(node, (ast.FunctionDef, ast.ClassDef)):
                    bound = [node.name]
                for name in bound:
                    self.assertFalse(hasattr(builtins, name) and name != "__init__", (where, name))
                    self.assertNotIn(name, BARRED_NAMES, where)
                if isinstance(node, ast.Name) and isinstance(node.ctx, ast.Load) and hasattr(builtins, node.id):
                    self.assertTrue(node.id in BUILTINS or node.id in top, (where, node.id))

    def test_methods(self):
        own = set()
        for path, tree in self.each():
            for node in ast.walk(tree):
                if isinstance(node, ast.ClassDef):
                    own.update(part.name for part in node.body if isinstance(part, ast.FunctionDef))
        for path, tree in self.each():
            for node in ast.walk(tree):
                if isinstance(node, ast.Call) and isinstance(node.func, ast.Attribute):
                    self.assertIn(node.func.attr, METHODS | own, (path, node.lineno))


if __name__ == "__main__":
    unittest.main()
