"""The form of the code, as far as it is easily seen: files, sizes, characters, imports and words."""

import ast
import builtins
import re
import unittest
from pathlib import Path

PACKAGE = Path(__file__).resolve().parent.parent / "blankcells"
FILES = sorted(path for path in PACKAGE.rglob("*") if path.is_file() and "__pycache__" not in path.parts)
INTERFACE = {
    "tables": {"is_table": ["thing"], "are_rules": ["many", "thing"], "blanks": ["table"], "holds": ["table", "rules"],
               "breaking": ["table", "rule"]},
    "joining": {"lots": ["table", "rules"]},
    "fillings": {"general": ["table", "rules"], "verdict": ["table", "rules"],
                 "shows_verdict": ["table", "rules", "thing"], "fillings": ["table", "rules", "values"]},
    "certain": {"certain": ["table", "rules"], "relation": ["table", "rules", "place", "other"],
                "choices": ["table", "rules", "place"], "together": ["table", "rules", "place", "other"]},
    "splits": {"rejoined": ["table", "parts"], "small": ["many", "parts"], "split": ["many", "rules", "parts"],
               "shows_split": ["many", "rules", "parts", "thing"]},
    "sure": {"sure_rows": ["table", "rules", "columns"], "lacking": ["table", "rules", "columns", "values"],
             "shows_lacking": ["table", "rules", "columns", "values", "thing"],
             "sure_rejoined": ["table", "rules", "parts"]},
    "conflicts": {"clearing": ["table", "rules", "most"], "clashing": ["table", "rules"],
                  "clearings": ["table", "rules", "most"]},
    "texts": {"table_text": ["table"], "read_table": ["text"], "rules_text": ["many", "rules"],
              "read_rules": ["text"]},
}
# The methods of the classes in sheets.py, with what they are passed behind self.
SHEET = {
    "__init__": ["many", "rules"], "many": [], "rules": [], "table": [], "blank": [], "assign_rows": ["rows"],
    "add": ["row"], "drop": ["number"], "put": ["row", "column", "cell"], "undo": [], "trying": [],
    "__call__": ["row", "column"], "__len__": [], "__repr__": [],
}
CLASSES = {
    "Sheet": SHEET, "Strict": {"__init__": ["many", "rules"]}, "Writing": {"__init__": ["many", "rules"]},
    "Counting": {"__init__": ["many", "rules"], "changes": []},
    "CountingWriting": {"__init__": ["many", "rules"], "changes": []},
}
BUILTINS = (
    "len range enumerate zip min max sum abs sorted reversed int str bool list tuple dict set isinstance ord repr any "
    "all divmod super property ValueError TypeError"
).split()
METHODS = (
    "append clear copy count endswith extend find get index insert isdigit items join keys pop remove replace split "
    "startswith strip update values"
).split()
DOUBLE = (
    "__init__ __eq__ __repr__ __len__ __enter__ __exit__ __call__ __iter__ __contains__ __getitem__ __setitem__"
).split()
# These take what they iterate over on the spot.
TAKERS = "list tuple dict sorted sum any all enumerate zip min max".split()
BARRED = (
    r"\b(type|typing|typing_extensions|enum|Enum|IntEnum|StrEnum|Flag|IntFlag|Generic|Protocol|ABC|ABCMeta|namedtuple|"
    r"NamedTuple|TypedDict|TYPE_CHECKING|abstractmethod)\b|dataclass|overload|contextmanager"
)


def tree_of(name):
    """The tree of a file of the package."""
    return ast.parse((PACKAGE / f"{name}.py").read_text("utf-8"))


def all_nodes():
    """All nodes of all files, each with the name of its file."""
    return [(path.name, node) for path in FILES for node in ast.walk(tree_of(path.stem))]


def is_setter(node):
    """Whether a method is the setter of a property."""
    return any(getattr(decorator, "attr", "") == "setter" for decorator in node.decorator_list)


class LanguageTest(unittest.TestCase):
    def test_only_python_files(self):
        self.assertIn("__init__.py", [path.name for path in FILES])
        for path in FILES:
            self.assertRegex(path.name, r"^(__init__|[a-z][a-z0-9_]*)\.py$")

    def test_lines(self):
        for path in FILES:
            text = path.read_text("utf-8")
            self.assertRegex(text, r"\A[ -~\n]*\Z", path.name)
            self.assertLessEqual(len(text.splitlines()), 399, path.name)
            self.assertLessEqual(max(map(len, text.splitlines()), default=0), 120, path.name)

    def test_words(self):
        for path in FILES:
            self.assertIsNone(re.search(BARRED, path.read_text("utf-8")), path.name)

    def test_functions_and_imports(self):
        for path in FILES:
            for node in ast.walk(ast.parse(path.read_text("utf-8"))):
                self.assertNotIsInstance(node, (ast.Import, ast.Global, ast.AsyncFunctionDef), path.name)
                if isinstance(node, ast.FunctionDef):
                    self.assertLessEqual(node.end_lineno - node.lineno + 1, 40, node.name)
                if isinstance(node, ast.ImportFrom):
                    self.assertEqual((node.level, node.module.split(".")[0]), (0, "blankcells"), path.name)

    def test_names_inside_functions(self):
        for path in FILES:
            tree = ast.parse(path.read_text("utf-8"))
            outside = {name.name for node in tree.body if isinstance(node, ast.ImportFrom) for name in node.names}
            outside |= {node.name for node in tree.body if isinstance(node, (ast.ClassDef, ast.FunctionDef))}
            for node in ast.walk(tree):
                if isinstance(node, ast.arg):
                    self.assertNotIn(node.arg, outside, path.name)
                    self.assertFalse(hasattr(builtins, node.arg), (path.name, node.arg))
                if isinstance(node, ast.Name) and isinstance(node.ctx, ast.Store):
                    self.assertNotIn(node.id, outside, path.name)
                    self.assertFalse(hasattr(builtins, node.id), (path.name, node.id))

    def test_interface_is_defined_in_its_files(self):
        for name, functions in INTERFACE.items():
            tree = tree_of(name)
            found = {
                node.name: [argument.arg for argument in node.args.args]
                for node in tree.body if isinstance(node, ast.FunctionDef)
            }
            for function, arguments in functions.items():
                self.assertEqual(found.get(function), arguments, function)

    def test_classes_of_the_interface(self):
        found = {node.name: node for node in tree_of("sheets").body if isinstance(node, ast.ClassDef)}
        for name, methods in CLASSES.items():
            own = {}
            for node in found[name].body:
                if isinstance(node, ast.FunctionDef) and node.name not in own:
                    more = [node.args.vararg.arg] if node.args.vararg else []
                    own[node.name] = [argument.arg for argument in node.args.args][1:] + more
            for method, arguments in methods.items():
                self.assertEqual(own.get(method), arguments, (name, method))

    def test_builtins(self):
        for name, node in all_nodes():
            if isinstance(node, ast.Name) and hasattr(builtins, node.id):
                self.assertIn(node.id, BUILTINS, name)

    def test_methods_of_builtin_values(self):
        own = {node.name for name, node in all_nodes() if isinstance(node, ast.FunctionDef)}
        for name, node in all_nodes():
            if isinstance(node, ast.Call) and isinstance(node.func, ast.Attribute):
                self.assertTrue(node.func.attr in METHODS or node.func.attr in own, (name, node.func.attr))

    def test_plain_names(self):
        for name, node in all_nodes():
            for word in (getattr(node, "id", None), getattr(node, "attr", None), getattr(node, "arg", None)):
                if word is not None and word.startswith("_"):
                    self.assertEqual((word, isinstance(node, ast.Attribute)), ("__init__", True), name)
            if isinstance(node, (ast.FunctionDef, ast.ClassDef)) and node.name.startswith("_"):
                self.assertIn(node.name, DOUBLE, name)

    def test_no_name_is_a_method_and_an_attribute(self):
        methods = {
            node.name for name, kind in all_nodes() if isinstance(kind, ast.ClassDef)
            for node in kind.body if isinstance(node, ast.FunctionDef) and not is_setter(node)
        }
        stored = {
            node.attr for name, node in all_nodes()
            if isinstance(node, ast.Attribute) and isinstance(node.ctx, ast.Store)
        }
        self.assertEqual(methods & stored, set())

    def test_lists_in_place_of_generators(self):
        # Some class compares, so that these take a list.
        for name, node in all_nodes():
            self.assertNotIsInstance(node, ast.GeneratorExp, name)

    def test_iterated_at_once(self):
        for name, node in all_nodes():
            for child in ast.iter_child_nodes(node):
                if isinstance(child, ast.Call) and getattr(child.func, "id", "") in ("range", "zip", "enumerate"):
                    is_iterated = getattr(node, "iter", None) is child
                    is_taken = isinstance(node, ast.Call) and getattr(node.func, "id", "") in TAKERS
                    self.assertTrue(is_iterated or is_taken, (name, child.lineno))

    def test_is(self):
        for name, node in all_nodes():
            if isinstance(node, ast.Compare) and any(isinstance(sign, (ast.Is, ast.IsNot)) for sign in node.ops):
                self.assertIn(getattr(node.comparators[-1], "value", 0), (None, True, False), name)

    def test_strings(self):
        for path in FILES:
            text = path.read_text("utf-8")
            self.assertNotIn(chr(37), text, path.name)
            self.assertIsNone(re.search(r"\\[^nt]", text), path.name)

    def test_no_errors_are_caught(self):
        for name, node in all_nodes():
            self.assertNotIsInstance(node, (ast.Try, ast.Lambda, ast.With, ast.Match, ast.NamedExpr), name)

    def test_imports_do_not_go_round(self):
        needed = {
            path.stem: {
                node.module.split(".")[1] for node in tree_of(path.stem).body if isinstance(node, ast.ImportFrom)
            }
            for path in FILES
        }
        while needed:
            free = [name for name in needed if not needed[name] & set(needed)]
            self.assertTrue(free, needed)
            needed = {name: needed[name] for name in needed if name not in free}


if __name__ == "__main__":
    unittest.main()
