"""The package's own files: their form, and that they draw on nothing from outside."""

import ast
import builtins
import pathlib
import re
import unittest

PACKAGE = pathlib.Path(__file__).resolve().parent.parent / "tankplans"
NODES_LEFT_OUT = (
    ast.With, ast.Delete, ast.Global, ast.Nonlocal, ast.Assert, ast.Yield, ast.YieldFrom, ast.Await,
    ast.AsyncFunctionDef, ast.AsyncFor, ast.AsyncWith, ast.Match, ast.Import, ast.Starred, ast.NamedExpr,
    ast.SetComp, ast.DictComp, ast.GeneratorExp, ast.Div, ast.Set, ast.AnnAssign,
)
BUILT_INS = (
    "len range enumerate zip min max sum abs sorted reversed int str bool list tuple dict set frozenset isinstance "
    "ord repr any all divmod Exception ValueError KeyError ZeroDivisionError StopIteration"
).split()
WORDS_LEFT_OUT = (
    "type typing typing_extensions enum Enum IntEnum StrEnum Flag IntFlag Generic Protocol ABC ABCMeta namedtuple "
    "NamedTuple TypedDict TYPE_CHECKING abstractmethod register mro elements open input format"
).split()

# The methods of Python's own values that the package may call.
VALUE_METHODS = (
    "append clear copy count endswith extend find get index insert isalnum isalpha isdigit islower isspace isupper "
    "items join keys ljust lower lstrip partition pop remove replace reverse rfind rjust rpartition rsplit rstrip "
    "setdefault split splitlines startswith strip update upper values zfill bit_length"
).split()
PYTHONS_OWN = (str, int, list, tuple, dict, set, bytes)


def sources():
    return [(path, path.read_text(encoding="utf-8")) for path in sorted(PACKAGE.glob("**/*.py"))]


def bound_names(tree):
    names = set()
    for node in ast.walk(tree):
        if isinstance(node, ast.Name) and isinstance(node.ctx, ast.Store):
            names.add(node.id)
        elif isinstance(node, (ast.FunctionDef, ast.ClassDef)):
            names.add(node.name)
        elif isinstance(node, ast.arg):
            names.add(node.arg)
        elif isinstance(node, ast.alias):
            names.add(node.name)
    return names


def own_methods():
    found = set()
    for path, text in sources():
        for node in ast.walk(ast.parse(text)):
            if isinstance(node, ast.ClassDef):
                found.update(part.name for part in node.body if isinstance(part, ast.FunctionDef))
    return found - {"__init__"}


def own_values():
    found = set()
    for path, text in sources():
        for node in ast.walk(ast.parse(text)):
            if isinstance(node, ast.Attribute) and isinstance(node.ctx, ast.Store):
                found.add(node.attr)
    return found


def drawn_from(tree):
    return [node.module.split(".")[1] for node in ast.walk(tree) if isinstance(node, ast.ImportFrom)]


class Form(unittest.TestCase):
    def test_the_package_holds_plain_files_alone(self):
        found = [path.name for path in PACKAGE.iterdir() if path.name != "__pycache__"]
        self.assertIn("__init__.py", found)
        self.assertIn("house.py", found)
        for name in found:
            self.assertRegex(name, r"^[a-z0-9_]+\.py$")

    def test_size_and_signs(self):
        for path, text in sources():
            self.assertRegex(text, r"\A[ -~\n]*\Z", path)
            self.assertLessEqual(len(text.splitlines()), 400, path)
            for line in text.splitlines():
                self.assertLessEqual(len(line), 120, (path, line))

    def test_functions_are_small_and_plain(self):
        for path, text in sources():
            for node in ast.walk(ast.parse(text)):
                if isinstance(node, (ast.FunctionDef, ast.ClassDef)):
                    self.assertEqual(node.decorator_list, [], (path, node.name))
                if isinstance(node, ast.FunctionDef):
                    self.assertLessEqual(node.end_lineno - node.lineno + 1, 40, (path, node.name))
                    self.assertIsNone(node.args.vararg or node.args.kwarg, (path, node.name))

    def test_only_the_package_itself_is_imported(self):
        for path, text in sources():
            for node in ast.walk(ast.parse(text)):
                if isinstance(node, ast.ImportFrom):
                    self.assertEqual(node.level, 0, path)
                    self.assertTrue(node.module.startswith("tankplans."), (path, node.module))

    def test_nothing_that_is_left_out(self):
        for path, text in sources():
            for node in ast.walk(ast.parse(text)):
                self.assertNotIsInstance(node, NODES_LEFT_OUT, (path, getattr(node, "lineno", 0)))
                if isinstance(node, ast.Assign):
                    self.assertEqual(len(node.targets), 1, (path, node.lineno))
                    self.assertNotIsInstance(node.targets[0], ast.Tuple, (path, node.lineno))
            for word in WORDS_LEFT_OUT:
                self.assertIsNone(re.search(rf"\b{word}\b", text), (path, word))

    def test_only_known_names(self):
        for path, text in sources():
            tree = ast.parse(text)
            known = bound_names(tree)
            for node in ast.walk(tree):
                if isinstance(node, ast.Name) and node.id not in known:
                    self.assertIn(node.id, BUILT_INS, (path, node.lineno))
            for name in known - {"__init__"}:
                self.assertFalse(hasattr(builtins, name), (path, name))
                self.assertFalse(name.startswith("_"), (path, name))

    def test_methods_and_values(self):
        self.assertEqual(own_methods() & own_values(), set())
        for name in own_methods() | own_values():
            for kind in PYTHONS_OWN:
                self.assertFalse(hasattr(kind, name), (kind, name))
        for path, text in sources():
            tree = ast.parse(text)
            called = [node.func for node in ast.walk(tree) if isinstance(node, ast.Call)]
            for node in ast.walk(tree):
                if isinstance(node, ast.Attribute):
                    known = own_methods().union(VALUE_METHODS) if node in called else own_values()
                    self.assertIn(node.attr, known, (path, node.lineno))

    def test_no_two_files_draw_from_one_another(self):
        waiting = {path.stem: drawn_from(ast.parse(text)) for path, text in sources()}
        while waiting:
            free = [name for name in waiting if not [other for other in waiting[name] if other in waiting]]
            self.assertNotEqual(free, [], waiting)
            for name in free:
                del waiting[name]

    def test_nothing_is_kept_at_a_files_top(self):
        for path, text in sources():
            for node in ast.parse(text).body[1:]:
                self.assertIsInstance(node, (ast.ImportFrom, ast.FunctionDef, ast.ClassDef, ast.Assign), path)
                if isinstance(node, ast.Assign):
                    self.assertIsInstance(ast.literal_eval(node.value), (int, str, tuple), (path, node.lineno))


if __name__ == "__main__":
    unittest.main()
