"""The rules of the language that can be counted or looked up: files, sizes, imports, names, builtins, methods."""

import ast
import builtins
import re
import unittest
from pathlib import Path

from tests.test_interface import FUNCTIONS

FOLDER = Path(__file__).resolve().parent.parent / "everydue"

LIBRARY = {
    "heapq": {"heappush", "heappop", "heapify", "heapreplace", "heappushpop"},
    "math": {"gcd", "lcm", "isqrt", "comb", "perm", "factorial"},
    "itertools": {
        "product", "combinations", "permutations", "chain", "accumulate", "pairwise", "islice", "zip_longest",
    },
    "collections": {"defaultdict", "deque"},
}

BUILTINS = set(
    "len range enumerate zip min max sum abs sorted reversed int str bool list tuple dict set isinstance ord repr any"
    " all divmod pow map iter next type super property staticmethod classmethod object Exception ValueError TypeError"
    " KeyError IndexError LookupError ZeroDivisionError ArithmeticError OverflowError RuntimeError"
    " NotImplementedError AttributeError NotImplemented".split()
)

METHODS = set(
    "append clear copy count endswith extend find get index insert isalnum isalpha isdigit islower isspace isupper"
    " items join keys ljust lower lstrip partition pop remove replace reverse rfind rjust rpartition rsplit rstrip"
    " setdefault split splitlines startswith strip update upper values zfill bit_length add discard sort".split()
)

NOT_ALLOWED = (ast.AsyncFunctionDef, ast.AsyncFor, ast.AsyncWith, ast.Await, ast.Import, ast.Div)

BARRED = re.compile(
    r"\b(typing|typing_extensions|enum|Enum|IntEnum|StrEnum|Flag|IntFlag|Generic|Protocol|ABC|ABCMeta|namedtuple"
    r"|NamedTuple|TypedDict|TYPE_CHECKING|abstractmethod|_wall|_WallAttr)\b|dataclass|overload|contextmanager"
)


class LanguageTest(unittest.TestCase):

    def setUp(self):
        self.texts = {path: path.read_bytes().decode("ascii") for path in sorted(FOLDER.rglob("*.py"))}
        self.trees = {path: ast.parse(text) for path, text in self.texts.items()}

    def nodes(self, *kinds):
        for path, tree in self.trees.items():
            for node in ast.walk(tree):
                if isinstance(node, kinds):
                    yield f"{path.name}:{getattr(node, 'lineno', 0)}", node

    def test_files(self):
        self.assertIn(FOLDER / "__init__.py", self.texts)
        self.assertLessEqual(len(self.texts), 100)
        for path in FOLDER.rglob("*"):
            if "__pycache__" not in path.parts:
                self.assertTrue(path.is_dir() or re.fullmatch(r"[a-z][a-z0-9_]*\.py|__init__\.py", path.name), path)

    def test_sizes_and_characters(self):
        for path, text in self.texts.items():
            self.assertTrue(re.fullmatch(r"[ -~\n]*", text), path)
            lines = text.split("\n")
            self.assertLessEqual(len(lines), 399, path)
            self.assertLessEqual(max(len(line) for line in lines), 120, path)
            self.assertIsNone(BARRED.search(text), path)
        for place, node in self.nodes(ast.FunctionDef):
            self.assertLessEqual(node.end_lineno - node.lineno + 1, 40, place)

    def test_imports(self):
        for place, node in self.nodes(ast.ImportFrom):
            self.assertEqual(node.level, 0, place)
            for name in node.names:
                self.assertIsNone(name.asname, place)
                if node.module in LIBRARY:
                    self.assertIn(name.name, LIBRARY[node.module], place)
                else:
                    file = FOLDER.parent / (node.module.replace(".", "/") + ".py")
                    bound = [other for tree in [self.trees[file]] for stem in tree.body for other in bound_by(stem)]
                    self.assertIn(name.name, bound, place)

    def test_no_two_files_import_from_each_other(self):
        uses = {
            path: [FOLDER.parent / (node.module.replace(".", "/") + ".py") for node in tree.body
                   if isinstance(node, ast.ImportFrom) and node.module not in LIBRARY]
            for path, tree in self.trees.items()
        }
        while uses:
            free = [path for path in uses if not any(other in uses for other in uses[path])]
            self.assertTrue(free, list(uses))
            uses = {path: others for path, others in uses.items() if path not in free}

    def test_statements_and_values(self):
        for place, _ in self.nodes(*NOT_ALLOWED):
            self.fail(place)
        for place, node in self.nodes(ast.Constant):
            self.assertNotIsInstance(node.value, (float, complex), place)
        for place, node in self.nodes(ast.FunctionDef):
            self.assertEqual(node.decorator_list, [], place)
        for place, node in self.nodes(ast.Compare):
            for sign, side in zip(node.ops, node.comparators):
                if isinstance(sign, (ast.Is, ast.IsNot)):
                    kind = isinstance(node.left, ast.Call) and getattr(node.left.func, "id", "") == "type"
                    self.assertTrue(kind or isinstance(side, ast.Constant), place)

    def test_names(self):
        own = {getattr(node, "id", None) for _, node in self.nodes(ast.Name) if isinstance(node.ctx, ast.Store)}
        own.update(node.arg for _, node in self.nodes(ast.arg))
        own.update(node.name for _, node in self.nodes(ast.FunctionDef, ast.ClassDef))
        imported = {name.name for _, node in self.nodes(ast.ImportFrom) for name in node.names}
        for name in own:
            self.assertTrue(re.fullmatch(r"_|_?[A-Za-z][A-Za-z0-9_]*|__[a-z]+__", name), name)
            self.assertTrue(name.startswith("__") or not hasattr(builtins, name), name)
        for place, node in self.nodes(ast.Name):
            if isinstance(node.ctx, ast.Load):
                self.assertNotEqual(node.id, "_", place)
                self.assertIn(node.id, own | imported | BUILTINS, place)

    def test_methods(self):
        own = {node.name for _, node in self.nodes(ast.FunctionDef)}
        for place, node in self.nodes(ast.Call):
            if isinstance(node.func, ast.Attribute):
                self.assertIn(node.func.attr, METHODS | own, place)

    def test_strings(self):
        for place, node in self.nodes(ast.Constant):
            if isinstance(node.value, str):
                self.assertNotIn("%", node.value, place)

    def test_no_local_name_is_that_of_an_import_a_class_or_a_function_of_the_file(self):
        for path, tree in self.trees.items():
            bound = [name for stem in tree.body for name in bound_by(stem)]
            for node in ast.walk(tree):
                if isinstance(node, (ast.FunctionDef, ast.Lambda)):
                    for inner in ast.walk(node):
                        if isinstance(inner, ast.arg):
                            self.assertNotIn(inner.arg, bound, f"{path.name}:{inner.lineno}")
                        if isinstance(inner, ast.Name) and isinstance(inner.ctx, ast.Store):
                            self.assertNotIn(inner.id, bound, f"{path.name}:{inner.lineno}")

    def test_no_import_and_no_function_is_left_over(self):
        public = {name for functions in FUNCTIONS.values() for name in functions}
        for path, tree in self.trees.items():
            used = {node.id for node in ast.walk(tree) if isinstance(node, ast.Name)}
            for stem in tree.body:
                if isinstance(stem, ast.ImportFrom):
                    for name in stem.names:
                        self.assertIn(name.name, used, path)
                        public.add(name.name)
        for path, tree in self.trees.items():
            used = {node.id for node in ast.walk(tree) if isinstance(node, ast.Name)}
            for stem in tree.body:
                if isinstance(stem, ast.FunctionDef):
                    self.assertTrue(stem.name in used or stem.name in public, f"{path.name}: {stem.name}")

    def test_attributes_and_methods(self):
        stored = {node.attr for _, node in self.nodes(ast.Attribute) if isinstance(node.ctx, ast.Store)}
        methods = {
            stem.name for _, node in self.nodes(ast.ClassDef) for stem in node.body if isinstance(stem, ast.FunctionDef)
        }
        # The document gives this name to a field of an error and to a method of books.
        self.assertEqual(stored & methods, {"answer"})
        for kind in (str, int, list, dict, set, bytes, tuple):
            self.assertEqual({name for name in stored | methods if hasattr(kind, name) and name != "__init__"}, set())

    def test_sets_stand_where_they_may(self):
        for path, tree in self.trees.items():
            for node in ast.walk(tree):
                for child in ast.iter_child_nodes(node):
                    is_call = isinstance(child, ast.Call) and getattr(child.func, "id", "") == "set"
                    if is_call or isinstance(child, (ast.Set, ast.SetComp)):
                        place = f"{path.name}:{child.lineno}"
                        self.assertIn(getattr(getattr(node, "func", None), "id", ""), ("sorted", "len"), place)
                        for inner in ast.walk(child):
                            self.assertFalse(isinstance(child, ast.Set) and isinstance(inner, ast.Starred), place)

    def test_names_at_module_level_are_bound_once(self):
        for path, tree in self.trees.items():
            bound = [name for stem in tree.body for name in bound_by(stem)]
            self.assertEqual(len(bound), len(set(bound)), path)


def bound_by(stem):
    """The names that a statement at module level binds."""
    if isinstance(stem, (ast.FunctionDef, ast.ClassDef)):
        return [stem.name]
    if isinstance(stem, ast.ImportFrom):
        return [name.name for name in stem.names]
    if isinstance(stem, ast.Assign):
        return [target.id for target in stem.targets]
    return []


if __name__ == "__main__":
    unittest.main()
