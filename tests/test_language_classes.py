"""The rules of LANGUAGE.md for classes, errors, finally and generators that can be seen in the files."""

import ast
import unittest

from tests.test_language import METHODS, nodes_of

DOUBLE_UNDERSCORES = {"__init__", "__eq__", "__str__", "__len__"}
BARRED_ATTRIBUTES = set(
    "items keys values pop update append clear extend insert remove reverse setdefault sort args encode decode hex"
    " fromhex format".split()
)
OWN_NAMES_OF_VALUES = {name for kind in (str, int, list, tuple, dict, set, bytes) for name in dir(kind)}
TAKING_LISTS = ("any", "all", "min", "max", "sum", "sorted")
CHANGING = {"append", "clear", "extend", "insert", "pop", "remove", "reverse", "setdefault", "update", "add", "discard"}


def classes():
    return [node for name, node in nodes_of(ast.ClassDef)]


def methods_of(found):
    return [node for node in found.body if isinstance(node, ast.FunctionDef)]


def decorators_of(method):
    return [ast.unparse(decorator) for decorator in method.decorator_list]


def is_error(found):
    return [ast.unparse(base) for base in found.bases][:1] in (["ValueError"], ["LookupError"], ["PushError"])


def own_errors():
    return {found.name for found in classes() if is_error(found)}


def attributes_assigned():
    """The names of the attributes that are assigned anywhere."""
    return {
        node.attr for name, node in nodes_of(ast.Attribute) if isinstance(node.ctx, ast.Store)
    }


def is_simple(node):
    """What may be assigned in a finally."""
    if isinstance(node, (ast.List, ast.Tuple)):
        return all(is_simple(item) for item in node.elts)
    if isinstance(node, ast.Attribute):
        return is_simple(node.value)
    return isinstance(node, (ast.Name, ast.Constant))


class Classes(unittest.TestCase):
    def test_bodies(self):
        for found in classes():
            for place, node in enumerate(found.body):
                if isinstance(node, ast.Assign):
                    self.assertFalse(is_error(found), found.name)
                    self.assertIsInstance(node.value, ast.Constant, found.name)
                elif not (place == 0 and isinstance(node, ast.Expr)):
                    self.assertIsInstance(node, ast.FunctionDef, found.name)

    def test_methods(self):
        for found in classes():
            names = [method.name for method in methods_of(found)]
            self.assertEqual(len(names), len(set(names)), found.name)
            for name in names:
                if name.startswith("__"):
                    self.assertIn(name, DOUBLE_UNDERSCORES, found.name)
                else:
                    self.assertNotIn(name, OWN_NAMES_OF_VALUES, found.name)

    def test_no_name_is_a_method_and_an_attribute(self):
        methods = {method.name for found in classes() for method in methods_of(found)}
        values = {target.id for found in classes() for node in found.body if isinstance(node, ast.Assign)
                  for target in node.targets}
        self.assertFalse((methods | values) & attributes_assigned())
        self.assertFalse(methods & values)

    def test_attributes(self):
        known = attributes_assigned() | METHODS | {"LIMIT"}
        known |= {method.name for found in classes() for method in methods_of(found)}
        self.assertFalse(attributes_assigned() & BARRED_ATTRIBUTES)
        for name, node in nodes_of(ast.Attribute):
            self.assertIn(node.attr, known, (name, node.lineno))

    def test_properties_and_static_and_class_methods(self):
        kinds = {}
        for found in classes():
            for method in methods_of(found):
                kinds.setdefault(method.name, set()).add(tuple(decorators_of(method)))
                if "property" in decorators_of(method):
                    self.assertEqual([arg.arg for arg in method.args.args], ["self"])
                    self.assertFalse(is_error(found))
        for name, found in kinds.items():
            self.assertEqual(len(found), 1, name)

    def test_double_underscore_methods_only_return(self):
        for found in classes():
            for method in methods_of(found):
                if method.name in ("__eq__", "__str__", "__len__"):
                    self.assertEqual([node.__class__ for node in method.body], [ast.Return])
                if method.name == "__init__":
                    self.assertFalse([node for node in ast.walk(method) if isinstance(node, ast.Return)])

    def test_properties_change_nothing(self):
        for found in classes():
            for method in methods_of(found):
                if "property" in decorators_of(method) or method.name in ("__eq__", "__str__", "__len__"):
                    for node in ast.walk(method):
                        self.assertNotIsInstance(node, (ast.Assign, ast.AugAssign, ast.Delete))
                        if isinstance(node, ast.Call) and isinstance(node.func, ast.Attribute):
                            self.assertNotIn(node.func.attr, CHANGING)

    def test_super(self):
        calls = [node for name, node in nodes_of(ast.Attribute) if isinstance(node.value, ast.Call)
                 and isinstance(node.value.func, ast.Name) and node.value.func.id == "super"]
        named = [node for name, node in nodes_of(ast.Name) if node.id == "super"]
        self.assertEqual(len(calls), len(named))
        for node in calls:
            self.assertFalse(node.value.args)
            self.assertFalse(node.attr.startswith("__"))
        below = {node.attr for node in calls}
        for name, node in nodes_of(ast.Attribute):
            if isinstance(node.value, ast.Name) and node.value.id in {found.name for found in classes()}:
                self.assertNotIn(node.attr, below)

    def test_bases_are_called_in_init_only(self):
        for found in classes():
            for method in methods_of(found):
                for node in ast.walk(method):
                    if isinstance(node, ast.Attribute) and node.attr.startswith("__"):
                        self.assertEqual((method.name, node.attr), ("__init__", "__init__"))


class Errors(unittest.TestCase):
    def test_handlers(self):
        for name, node in nodes_of(ast.ExceptHandler):
            caught = node.type.elts if isinstance(node.type, ast.Tuple) else [node.type]
            for kind in caught:
                self.assertIn(kind.id, own_errors() | {"KeyError", "ZeroDivisionError", "ValueError"}, name)

    def test_what_a_try_for_value_errors_contains(self):
        for name, node in nodes_of(ast.Try):
            caught = [handler.type.id for handler in node.handlers if isinstance(handler.type, ast.Name)]
            if "ValueError" in caught:
                self.assertEqual([ast.unparse(row) for row in node.body], ["number = int(word)"], name)

    def test_raise_creates_its_error(self):
        for name, node in nodes_of(ast.Raise):
            self.assertIsInstance(node.exc, ast.Call, name)
            self.assertIn(node.exc.func.id, own_errors(), name)

    def test_finally(self):
        for name, node in nodes_of(ast.Try):
            for row in node.finalbody:
                self.check_finally(row)

    def check_finally(self, row):
        self.assertIsInstance(row, (ast.Assign, ast.If), ast.unparse(row))
        if isinstance(row, ast.If):
            self.assertIsInstance(row.test, ast.Compare)
            self.assertIsInstance(row.test.ops[0], (ast.Is, ast.IsNot))
            self.assertEqual(ast.unparse(row.test.comparators[0]), "None")
            for inner in row.body + row.orelse:
                self.check_finally(inner)
        else:
            self.assertTrue(is_simple(row.value), ast.unparse(row))
            self.assertEqual(len(row.targets), 1)


class Calls(unittest.TestCase):
    def test_generators_are_not_stored(self):
        yielding = {
            method.name for name, method in nodes_of(ast.FunctionDef)
            if any(isinstance(node, (ast.Yield, ast.YieldFrom)) for node in ast.walk(method))
        }
        self.assertEqual(yielding, {"walk"})
        for name, node in nodes_of((ast.Attribute, ast.Name)):
            self.assertNotIn(node.attr if isinstance(node, ast.Attribute) else node.id, yielding, name)

    def test_lists_where_classes_are_compared(self):
        for name, node in nodes_of(ast.Call):
            if isinstance(node.func, ast.Name) and node.func.id in TAKING_LISTS:
                for arg in node.args:
                    self.assertNotIsInstance(arg, ast.GeneratorExp, (name, node.lineno))

    def test_default_values_are_plain(self):
        for name, node in nodes_of(ast.FunctionDef):
            for default in node.args.defaults + node.args.kw_defaults:
                self.assertIsInstance(default, (ast.Constant, type(None)), (name, node.name))

    def test_there_are_classes(self):
        self.assertLessEqual({"Bench", "CostBench", "Purse", "Shell"}, {found.name for found in classes()})


if __name__ == "__main__":
    unittest.main()
