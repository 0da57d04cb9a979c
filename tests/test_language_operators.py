"""What operators and properties run: it calls nothing that is held, and changes nothing that was there."""

import ast
import unittest

from tests.test_language import BUILTINS
from tests.test_language_more import classes, is_property, methods, stored_in, walk

FREE = ("__init__", "__call__", "__enter__", "__exit__", "__setitem__")
CHANGING = ("append", "clear", "extend", "insert", "pop", "remove", "reverse", "setdefault", "update", "add", "discard")
FRESH = (ast.List, ast.Dict, ast.ListComp, ast.DictComp)


def is_operator(node):
    return node.name.startswith("__") and node.name not in FREE


def by_name():
    """The functions and methods of the package by their names; a class stands for its __init__."""
    found = {}
    for _, node in walk(ast.FunctionDef):
        found.setdefault(node.name, []).append(node)
    for node in classes():
        found[node.name] = [one for one in methods(node) if one.name == "__init__"]
    return found


def called(node):
    """The names of what a function calls, by itself or as a method."""
    functions = [one.func for one in ast.walk(node) if isinstance(one, ast.Call)]
    return [one.id if isinstance(one, ast.Name) else one.attr for one in functions]


def run_by_operators():
    known = by_name()
    waiting = [one for node in classes() for one in methods(node) if is_operator(one) or is_property(one)]
    found = []
    while waiting:
        node = waiting.pop()
        if node not in found:
            found.append(node)
            waiting += [one for name in called(node) for one in known.get(name, [])]
    return found


def fresh_names(node):
    """The local variables that are only assigned lists and dicts made on the spot."""
    found, others = set(), {one.arg for one in ast.walk(node) if isinstance(one, ast.arg)}
    for one in ast.walk(node):
        if isinstance(one, ast.Assign):
            made = isinstance(one.value, FRESH) or ast.unparse(one.value).split("(")[0] in ("list", "dict", "sorted")
            for name in [row.id for row in one.targets if isinstance(row, ast.Name)]:
                (found if made else others).add(name)
    return found - others


class Operators(unittest.TestCase):
    def test_some_are_found(self):
        names = {node.name for node in run_by_operators()}
        self.assertLessEqual({"__add__", "__radd__", "__eq__", "check_rules", "place", "needed_pairs"}, names)

    def test_no_method_has_the_name_of_an_attribute(self):
        attributes = set().union(*[stored_in(node) for node in classes()])
        self.assertLessEqual({"index", "kind", "name", "tree"}, attributes)
        for node in run_by_operators():
            for one in ast.walk(node):
                if isinstance(one, ast.Call) and isinstance(one.func, ast.Attribute):
                    self.assertNotIn(one.func.attr, attributes, (node.name, one.lineno))

    def test_functions_are_called_by_their_names(self):
        known = {*by_name(), *BUILTINS}
        for node in run_by_operators():
            for one in ast.walk(node):
                if isinstance(one, ast.Call):
                    self.assertIsInstance(one.func, (ast.Name, ast.Attribute), node.name)
                    if isinstance(one.func, ast.Name):
                        self.assertIn(one.func.id, known, node.name)

    def test_nothing_that_was_there_is_changed(self):
        for node in run_by_operators():
            fresh = fresh_names(node)
            for one in ast.walk(node):
                if isinstance(one, (ast.Attribute, ast.Subscript)) and isinstance(one.ctx, (ast.Store, ast.Del)):
                    at_start = node.name == "__init__" and isinstance(one.value, ast.Name) and one.value.id == "self"
                    made = isinstance(one.value, ast.Name) and one.value.id in fresh
                    self.assertTrue(at_start or made, (node.name, one.lineno))
                if isinstance(one, ast.Call) and isinstance(one.func, ast.Attribute) and one.func.attr in CHANGING:
                    self.assertIsInstance(one.func.value, ast.Name, (node.name, one.lineno))
                    self.assertIn(one.func.value.id, fresh, (node.name, one.lineno))


if __name__ == "__main__":
    unittest.main()
