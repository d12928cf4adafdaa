"""What the package's files must keep to, as far as it is easily seen."""

import ast
import inspect
import pathlib
import re
import unittest

from wordalgebra import machines

FOLDER = pathlib.Path(machines.__file__).parent
FILES = sorted(FOLDER.glob("*.py"))
OUTSIDE_WORDS = re.compile(
    r"\b(type|typing|typing_extensions|enum|Enum|IntEnum|StrEnum|Flag|IntFlag|Generic|Protocol|ABC|ABCMeta|namedtuple"
    r"|NamedTuple|TypedDict|TYPE_CHECKING|abstractmethod)\b|dataclass|overload|contextmanager"
)
OUTSIDE_NAMES = {
    "open", "input", "print", "eval", "exec", "compile", "getattr", "setattr", "globals", "locals", "vars", "dir",
    "id", "super", "elements", "register", "sys", "os", "chr", "float", "bytes", "map", "filter", "hash", "next",
}
OUTSIDE_FORMS = (
    ast.With, ast.Match, ast.Delete, ast.Global, ast.Nonlocal, ast.Assert, ast.Yield, ast.YieldFrom, ast.GeneratorExp,
    ast.SetComp, ast.DictComp, ast.NamedExpr, ast.Starred, ast.Div, ast.AsyncFunctionDef, ast.Await, ast.Import,
)


class PackageTest(unittest.TestCase):
    def test_the_interface(self):
        self.assertEqual(list(inspect.signature(machines.answers).parameters), ["calls"])

    def test_only_plain_files_lie_in_the_package(self):
        names = [path.name for path in FOLDER.iterdir() if path.name != "__pycache__"]
        self.assertEqual(sorted(names), [path.name for path in FILES])
        self.assertIn("__init__.py", names)

    def test_signs_and_sizes(self):
        for path in FILES:
            text = path.read_bytes().decode("ascii")
            self.assertFalse([sign for sign in text if sign != "\n" and not " " <= sign <= "~"], path)
            self.assertLessEqual(text.count("\n"), 400, path)
            self.assertLessEqual(max(len(line) for line in text.split("\n")), 120, path)
            self.assertIsNone(OUTSIDE_WORDS.search(text), path)

    def test_forms_and_names(self):
        for path in FILES:
            for node in ast.walk(ast.parse(path.read_text())):
                self.assertNotIsInstance(node, OUTSIDE_FORMS, path)
                if isinstance(node, ast.FunctionDef):
                    self.assertLessEqual(node.end_lineno - node.lineno + 1, 40, node.name)
                    self.assertEqual(node.decorator_list, [], node.name)
                if isinstance(node, ast.ImportFrom):
                    self.assertTrue(node.module.startswith("wordalgebra."), path)
                if isinstance(node, ast.Name):
                    self.assertNotIn(node.id, OUTSIDE_NAMES, path)
                if isinstance(node, ast.Assign):
                    self.assertEqual(len(node.targets), 1, path)


if __name__ == "__main__":
    unittest.main()
