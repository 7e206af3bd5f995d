"""That the package keeps to its small part of Python, as far as a look at its files tells."""

import ast
import builtins
import pathlib
import re
import unittest

PACKAGE = pathlib.Path(__file__).resolve().parent.parent / "calendartext"
OWN_NAMES = set(
    "len range enumerate zip min max sum abs sorted reversed int str bool list tuple dict set frozenset isinstance ord "
    "repr any all divmod".split())
METHODS = set(
    "append clear copy count endswith extend find get index insert isalnum isalpha isdigit islower isspace isupper items "
    "join keys ljust lower lstrip partition pop remove replace reverse rfind rjust rpartition rsplit rstrip setdefault "
    "split splitlines startswith strip update upper values zfill bit_length".split())
WORDS_NOWHERE = re.compile(
    r"\b(type|typing|typing_extensions|enum|Enum|IntEnum|StrEnum|Flag|IntFlag|Generic|Protocol|ABC|ABCMeta|namedtuple|"
    r"NamedTuple|TypedDict|TYPE_CHECKING|abstractmethod)\b|dataclass|overload|contextmanager")
NODES_NOT_USED = (
    ast.With, ast.Match, ast.Delete, ast.Global, ast.Nonlocal, ast.Assert, ast.Yield, ast.YieldFrom, ast.AsyncFunctionDef,
    ast.Await, ast.SetComp, ast.DictComp, ast.GeneratorExp, ast.NamedExpr, ast.Starred, ast.Div, ast.Set, ast.Import)


class Language(unittest.TestCase):
    def files(self):
        found = sorted(PACKAGE.glob("*.py"))
        self.assertGreater(len(found), 1)
        return [(path, path.read_text(encoding="utf-8")) for path in found]

    def nodes(self):
        return [(path.name, node) for path, text in self.files() for node in ast.walk(ast.parse(text))]

    def test_files(self):
        for path in PACKAGE.iterdir():
            if path.name != "__pycache__":
                self.assertRegex(path.name, r"^[a-z][a-z0-9_]*\.py$|^__init__\.py$")
        self.assertTrue((PACKAGE / "__init__.py").is_file())

    def test_sizes_and_signs(self):
        for path, text in self.files():
            lines = text.split("\n")
            self.assertLessEqual(len(lines), 400, path.name)
            self.assertLessEqual(max(len(line) for line in lines), 120, path.name)
            self.assertRegex(text, r"\A[ -~\n]*\Z", path.name)
            self.assertIsNone(WORDS_NOWHERE.search(text), path.name)

    def test_functions(self):
        for file_name, node in self.nodes():
            if isinstance(node, ast.FunctionDef):
                self.assertLessEqual(node.end_lineno - node.lineno + 1, 40, (file_name, node.name))
                self.assertEqual(node.decorator_list, [], (file_name, node.name))
                self.assertIsNone(node.args.vararg or node.args.kwarg, (file_name, node.name))

    def test_statements_and_expressions(self):
        for file_name, node in self.nodes():
            place = (file_name, getattr(node, "lineno", 0))
            self.assertNotIsInstance(node, NODES_NOT_USED, place)
            if isinstance(node, ast.Assign):
                self.assertEqual(len(node.targets), 1, place)
            if isinstance(node, (ast.For, ast.While)):
                self.assertEqual(node.orelse, [], place)
            if isinstance(node, ast.Constant):
                self.assertIsInstance(node.value, (int, str, type(None)), place)

    def test_imports_are_the_packages_own(self):
        for file_name, node in self.nodes():
            if isinstance(node, ast.ImportFrom):
                self.assertEqual(node.level, 0, file_name)
                self.assertRegex(node.module, r"^calendartext\.[a-z]+$", file_name)
                defined = ast.parse((PACKAGE / (node.module.split(".")[1] + ".py")).read_text()).body
                for alias in node.names:
                    self.assertIsNone(alias.asname, file_name)
                    self.assertTrue(any(self.defines(part, alias.name) for part in defined), (file_name, alias.name))

    def defines(self, part, wanted):
        if isinstance(part, ast.Assign):
            return part.targets[0].id == wanted
        return isinstance(part, (ast.FunctionDef, ast.ClassDef)) and part.name == wanted

    def test_names(self):
        for file_name, node in self.nodes():
            if isinstance(node, ast.Name):
                self.assertFalse(node.id.startswith("_"), (file_name, node.id))
                if hasattr(builtins, node.id):
                    self.assertIn(node.id, OWN_NAMES, file_name)
                    self.assertIsInstance(node.ctx, ast.Load, (file_name, node.id))
            if isinstance(node, ast.arg):
                self.assertFalse(hasattr(builtins, node.arg), (file_name, node.arg))

    def test_methods(self):
        for file_name, node in self.nodes():
            if isinstance(node, ast.Call) and isinstance(node.func, ast.Attribute):
                self.assertIn(node.func.attr, METHODS, (file_name, node.lineno))


if __name__ == "__main__":
    unittest.main()
