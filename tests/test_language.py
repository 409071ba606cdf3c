"""The form of the code, as far as it is easily seen: files, sizes, characters, imports and words."""

import ast
import builtins
import re
import unittest
from pathlib import Path

PACKAGE = Path(__file__).resolve().parent.parent / "blankcells"
FILES = sorted(path for path in PACKAGE.rglob("*") if path.is_file() and "__pycache__" not in path.parts)
INTERFACE = {
    "tables": {"is_table": ["thing"], "are_rules": ["many", "thing"], "blanks": ["table"], "holds": ["table", "rules"],
               "breaking": ["table", "rule"]},
    "joining": {"lots": ["table", "rules"]},
    "fillings": {"general": ["table", "rules"], "verdict": ["table", "rules"],
                 "shows_verdict": ["table", "rules", "thing"], "fillings": ["table", "rules", "values"]},
    "certain": {"certain": ["table", "rules"], "relation": ["table", "rules", "place", "other"],
                "choices": ["table", "rules", "place"], "together": ["table", "rules", "place", "other"]},
    "splits": {"rejoined": ["table", "parts"], "small": ["many", "parts"], "split": ["many", "rules", "parts"],
               "shows_split": ["many", "rules", "parts", "thing"]},
}
BARRED = (
    r"\b(type|typing|typing_extensions|enum|Enum|IntEnum|StrEnum|Flag|IntFlag|Generic|Protocol|ABC|ABCMeta|namedtuple|"
    r"NamedTuple|TypedDict|TYPE_CHECKING|abstractmethod)\b|dataclass|overload|contextmanager"
)


class LanguageTest(unittest.TestCase):
    def test_only_python_files(self):
        self.assertIn("__init__.py", [path.name for path in FILES])
        for path in FILES:
            self.assertRegex(path.name, r"^(__init__|[a-z][a-z0-9_]*)\.py$")

    def test_lines(self):
        for path in FILES:
            text = path.read_text("utf-8")
            self.assertRegex(text, r"\A[ -~\n]*\Z", path.name)
            self.assertLessEqual(len(text.splitlines()), 399, path.name)
            self.assertLessEqual(max(map(len, text.splitlines()), default=0), 120, path.name)

    def test_words(self):
        for path in FILES:
            self.assertIsNone(re.search(BARRED, path.read_text("utf-8")), path.name)

    def test_functions_and_imports(self):
        for path in FILES:
            for node in ast.walk(ast.parse(path.read_text("utf-8"))):
                self.assertNotIsInstance(node, (ast.Import, ast.Global, ast.AsyncFunctionDef), path.name)
                if isinstance(node, ast.FunctionDef):
                    self.assertLessEqual(node.end_lineno - node.lineno + 1, 40, node.name)
                if isinstance(node, ast.ImportFrom):
                    self.assertEqual((node.level, node.module.split(".")[0]), (0, "blankcells"), path.name)

    def test_names_inside_functions(self):
        for path in FILES:
            tree = ast.parse(path.read_text("utf-8"))
            outside = {name.name for node in tree.body if isinstance(node, ast.ImportFrom) for name in node.names}
            outside |= {node.name for node in tree.body if isinstance(node, (ast.ClassDef, ast.FunctionDef))}
            for node in ast.walk(tree):
                if isinstance(node, ast.arg):
                    self.assertNotIn(node.arg, outside, path.name)
                    self.assertFalse(hasattr(builtins, node.arg), (path.name, node.arg))
                if isinstance(node, ast.Name) and isinstance(node.ctx, ast.Store):
                    self.assertNotIn(node.id, outside, path.name)
                    self.assertFalse(hasattr(builtins, node.id), (path.name, node.id))

    def test_interface_is_defined_in_its_files(self):
        for name, functions in INTERFACE.items():
            tree = ast.parse((PACKAGE / f"{name}.py").read_text("utf-8"))
            found = {
                node.name: [argument.arg for argument in node.args.args]
                for node in tree.body if isinstance(node, ast.FunctionDef)
            }
            for function, arguments in functions.items():
                self.assertEqual(found.get(function), arguments, function)


if __name__ == "__main__":
    unittest.main()
