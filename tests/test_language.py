"""The package keeps to its part of Python: imports, statements, names, sizes, signs."""

import ast
import builtins
import pathlib
import re
import unittest

PACKAGE = pathlib.Path(__file__).resolve().parent.parent / "barsandpages"

OWN_NAMES = set("""len range enumerate zip min max sum abs sorted reversed int str bool list tuple dict set frozenset
isinstance ord repr any all divmod""".split())
OTHER_BUILTINS = set(dir(builtins)) - OWN_NAMES
FORBIDDEN = (
    ast.With, ast.Delete, ast.Global, ast.Nonlocal, ast.Assert, ast.Yield, ast.YieldFrom, ast.Await, ast.Import,
    ast.AsyncFunctionDef, ast.SetComp, ast.DictComp, ast.GeneratorExp, ast.NamedExpr, ast.Starred, ast.Div, ast.Match,
)
FORBIDDEN_WORDS = re.compile(
    r"\b(type|typing|typing_extensions|enum|Enum|IntEnum|StrEnum|Flag|IntFlag|Generic|Protocol|ABC|ABCMeta|namedtuple"
    r"|NamedTuple|TypedDict|TYPE_CHECKING|abstractmethod)\b|dataclass|overload|contextmanager"
)
METHODS = set("append extend".split())


def sources():
    return sorted(PACKAGE.glob("*.py"))


def all_nodes():
    return [(path, node) for path in sources() for node in ast.walk(ast.parse(path.read_text()))]


class LanguageTest(unittest.TestCase):
    def test_only_plain_files_lie_in_the_package(self):
        names = [path.name for path in PACKAGE.iterdir() if path.name != "__pycache__"]
        self.assertIn("__init__.py", names)
        self.assertIn("setting.py", names)
        for name in names:
            self.assertRegex(name, r"\A(__init__|[a-z][a-z0-9_]*)\.py\Z")

    def test_imports_are_the_packages_own(self):
        for path, node in all_nodes():
            if isinstance(node, ast.ImportFrom):
                self.assertRegex(node.module, r"\Abarsandpages\.[a-z]+\Z", path)
                defined = ast.parse((PACKAGE / (node.module.split(".")[1] + ".py")).read_text()).body
                names = [getattr(row, "name", None) or row.targets[0].id for row in defined
                         if isinstance(row, (ast.FunctionDef, ast.ClassDef, ast.Assign))]
                for name in node.names:
                    self.assertIn(name.name, names, path)
                    self.assertIsNone(name.asname)

    def test_nothing_forbidden_is_used(self):
        for path, node in all_nodes():
            where = (path.name, getattr(node, "lineno", 0))
            self.assertNotIsInstance(node, FORBIDDEN, where)
            if isinstance(node, ast.Name):
                self.assertNotIn(node.id, OTHER_BUILTINS, where)
                self.assertFalse(node.id.startswith("_"), where)
            if isinstance(node, (ast.Name, ast.arg)) and not isinstance(getattr(node, "ctx", None), ast.Load):
                self.assertNotIn(getattr(node, "id", None) or node.arg, OWN_NAMES | OTHER_BUILTINS, where)
            if isinstance(node, ast.Constant):
                self.assertIn(type(node.value), (int, str, bool, type(None)), where)
            if isinstance(node, ast.Call) and isinstance(node.func, ast.Attribute):
                self.assertIn(node.func.attr, METHODS, where)
            if isinstance(node, ast.FunctionDef):
                self.assertEqual(node.decorator_list, [], where)
                self.assertLessEqual(node.end_lineno - node.lineno + 1, 40, where)

    def test_sizes_and_signs(self):
        for path in sources():
            text = path.read_bytes().decode("ascii")
            self.assertRegex(text, r"\A[ -~\n]*\Z", path)
            self.assertIsNone(FORBIDDEN_WORDS.search(text), path)
            rows = text.split("\n")
            self.assertLessEqual(len(rows), 400, path)
            self.assertLessEqual(max(len(row) for row in rows), 120, path)


if __name__ == "__main__":
    unittest.main()
