"""The rules of LANGUAGE.md that can be seen in the files of the package."""

import ast
import re
import unittest
from functools import lru_cache
from pathlib import Path

PACKAGE = Path(__file__).resolve().parent.parent / "blindpush"

BUILTINS = set(
    "len range enumerate zip min max sum abs sorted reversed int str bool bytes list tuple dict set frozenset"
    " isinstance ord repr any all divmod iter next super property staticmethod classmethod NotImplemented"
    " Exception ValueError TypeError KeyError IndexError LookupError ZeroDivisionError ArithmeticError"
    " OverflowError RuntimeError NotImplementedError AttributeError StopIteration".split()
)
PYTHON_NAMES = set(dir(__builtins__) if not isinstance(__builtins__, dict) else __builtins__)
BARRED_WORDS = set(
    "type typing typing_extensions enum Enum IntEnum StrEnum Flag IntFlag Generic Protocol ABC ABCMeta"
    " namedtuple NamedTuple TypedDict TYPE_CHECKING abstractmethod".split()
)
METHODS = set(
    "append clear copy count endswith extend find get index insert isalnum isalpha isdigit islower isspace isupper"
    " items join keys ljust lower lstrip partition pop remove replace reverse rfind rjust rpartition rsplit rstrip"
    " setdefault split splitlines startswith strip update upper values zfill bit_length title capitalize swapcase"
    " casefold center expandtabs removeprefix removesuffix rindex isascii isdecimal isnumeric istitle isidentifier"
    " isprintable translate add discard".split()
)
BARRED_PARTS = ("dataclass", "overload", "contextmanager")
BARRED_NAMES = set(
    "register mro elements open input version_info with_traceback add_note attrgetter breakpoint builtins compile"
    " copyright credits delattr dir eval exec exit gc getattr globals hasattr help id importlib license locals"
    " methodcaller os quit setattr type vars sys __name__".split()
)
BARRED_NODES = (
    ast.Global, ast.AsyncFunctionDef, ast.AsyncFor, ast.AsyncWith, ast.Await, ast.Import, ast.Div, ast.MatMult,
)
MODULE_NODES = (ast.ImportFrom, ast.FunctionDef, ast.ClassDef, ast.Assign)


def files():
    return sorted(path for path in PACKAGE.rglob("*") if "__pycache__" not in path.parts)


@lru_cache
def trees():
    return [(path.name, ast.parse(path.read_text(encoding="utf-8"))) for path in files()]


def nodes_of(kinds):
    return [(name, node) for name, tree in trees() for node in ast.walk(tree) if isinstance(node, kinds)]


def names_bound(node):
    """The names that a node gives a meaning to."""
    if isinstance(node, ast.Name) and not isinstance(node.ctx, ast.Load):
        return [node.id]
    if isinstance(node, ast.arg):
        return [node.arg]
    if isinstance(node, (ast.FunctionDef, ast.ClassDef)):
        return [node.name]
    if isinstance(node, ast.alias):
        return [node.asname or node.name]
    return []


class Language(unittest.TestCase):
    def test_files(self):
        self.assertIn(PACKAGE / "__init__.py", files())
        for path in files():
            self.assertRegex(path.name, r"^[a-z0-9_]+\.py$")

    def test_size_and_characters(self):
        for path in files():
            text = path.read_text(encoding="utf-8")
            self.assertIsNone(re.search(r"[^ -~\n]", text), path.name)
            self.assertLessEqual(len(text.splitlines()), 400, path.name)
            self.assertLessEqual(max(map(len, text.splitlines())), 120, path.name)
        for name, node in nodes_of(ast.FunctionDef):
            self.assertLessEqual(node.end_lineno - node.lineno + 1, 40, (name, node.name))

    def test_words(self):
        for path in files():
            text = path.read_text(encoding="utf-8")
            self.assertFalse(BARRED_WORDS & set(re.findall(r"\w+", text)), path.name)
            for part in BARRED_PARTS:
                self.assertNotIn(part, text, path.name)

    def test_imports_stand_at_the_top_and_name_the_package(self):
        for name, tree in trees():
            body = [node for node in tree.body if not isinstance(node, ast.Expr)]
            imports = [node for node in ast.walk(tree) if isinstance(node, (ast.Import, ast.ImportFrom))]
            self.assertEqual(body[:len(imports)], imports, name)
            for node in imports:
                self.assertEqual(node.level, 0, name)
                self.assertTrue(node.module.startswith("blindpush."), (name, node.module))
                self.assertNotIn("*", [alias.name for alias in node.names], name)

    def test_imports_name_the_file_that_defines_the_name(self):
        tops = {name: self.defined_at_top(tree) for name, tree in trees()}
        for name, node in nodes_of(ast.ImportFrom):
            for alias in node.names:
                self.assertIn(alias.name, tops[node.module.removeprefix("blindpush.") + ".py"], name)

    def defined_at_top(self, tree):
        nodes = [node for node in tree.body if not isinstance(node, ast.ImportFrom)]
        return [bound for node in nodes for bound in self.bound_at_top(node)]

    def test_no_two_files_import_from_each_other(self):
        waiting = {name: set() for name, tree in trees()}
        for name, node in nodes_of(ast.ImportFrom):
            waiting[name].add(node.module.removeprefix("blindpush.") + ".py")
        while waiting:
            free = [name for name in waiting if not waiting[name] & set(waiting)]
            self.assertTrue(free, waiting)
            for name in free:
                del waiting[name]

    def test_local_names_are_not_those_of_imports_and_classes(self):
        for name, tree in trees():
            taken = {
                bound for node in tree.body if isinstance(node, (ast.ImportFrom, ast.ClassDef))
                for bound in self.bound_at_top(node)
            }
            for node in ast.walk(tree):
                if isinstance(node, (ast.Name, ast.arg)):
                    self.assertFalse(taken & set(names_bound(node)), name)

    def test_methods_of_builtin_values(self):
        own = {node.name for name, node in nodes_of(ast.FunctionDef)}
        for name, node in nodes_of(ast.Call):
            if isinstance(node.func, ast.Attribute) and node.func.attr not in own:
                self.assertIn(node.func.attr, METHODS, (name, node.lineno))

    def test_module_level(self):
        for name, tree in trees():
            for place, node in enumerate(tree.body):
                if not (place == 0 and isinstance(node, ast.Expr) and isinstance(node.value, ast.Constant)):
                    self.assertIsInstance(node, MODULE_NODES, name)
            bound = [bound for node in tree.body for bound in self.bound_at_top(node)]
            self.assertEqual(len(bound), len(set(bound)), name)

    def bound_at_top(self, node):
        if isinstance(node, ast.ImportFrom):
            return [alias.asname or alias.name for alias in node.names]
        if isinstance(node, ast.Assign):
            return [target.id for target in node.targets]
        return names_bound(node)

    def test_statements_and_signs(self):
        for name, node in nodes_of(BARRED_NODES):
            self.fail((name, node.__class__.__name__))
        for name, node in nodes_of(ast.Constant):
            self.assertNotIsInstance(node.value, (float, complex), name)
            if isinstance(node.value, str):
                self.assertNotIn(chr(37), node.value, name)
        for name, node in nodes_of(ast.Compare):
            for sign, right in zip(node.ops, node.comparators):
                if isinstance(sign, (ast.Is, ast.IsNot)):
                    self.assertIsInstance(right, ast.Constant, name)
                    self.assertIn(right.value, (None, True, False), name)

    def test_names(self):
        for name, tree in trees():
            for node in ast.walk(tree):
                for bound in names_bound(node):
                    if not (isinstance(node, ast.FunctionDef) and bound.startswith("__")):
                        self.assertRegex(bound, r"^[A-Za-z][A-Za-z0-9_]*$", name)
                        self.assertNotIn(bound, BARRED_NAMES | PYTHON_NAMES, name)

    def test_builtins(self):
        for name, node in nodes_of(ast.Name):
            if node.id in PYTHON_NAMES:
                self.assertIn(node.id, BUILTINS, (name, node.lineno))

    def test_functions(self):
        for name, node in nodes_of(ast.FunctionDef):
            self.assertEqual(node.args.posonlyargs, [], (name, node.name))
            for decorator in node.decorator_list:
                self.assertRegex(ast.unparse(decorator), r"^(property|staticmethod|classmethod|\w+\.setter)$", name)


if __name__ == "__main__":
    unittest.main()
