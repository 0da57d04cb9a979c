"""Further rules of the language; some are asked for more narrowly than the language does."""

import ast
import unittest

from tests.test_language import BUILTINS, LIBRARY, files

METHODS = set(
    "append clear copy count endswith extend find get index insert isalnum isalpha isdigit islower isspace isupper items"
    " join keys ljust lower lstrip partition pop remove replace reverse rfind rjust rpartition rsplit rstrip setdefault"
    " split splitlines startswith strip update upper values zfill bit_length add".split()
)
PYTHON_ERRORS = {"ValueError", "LookupError", "ArithmeticError", "TypeError"}
SPECIAL = set(
    "__init__ __eq__ __repr__ __str__ __len__ __call__ __iter__ __contains__ __getitem__ __setitem__ __add__ __radd__"
    " __invert__ __enter__ __exit__".split()
)
TAKERS = ("sorted", "min", "max", "any", "all", "sum", "list", "tuple")
# Parsed once, so that a node met again is the same object.
PARSED = {path.name: ast.parse(path.read_text()) for path in files()}


def walk(kind):
    return [(name, node) for name, tree in PARSED.items() for node in ast.walk(tree) if isinstance(node, kind)]


def is_property(node):
    return any(isinstance(one, ast.Name) and one.id == "property" for one in node.decorator_list)


def classes():
    return [node for _, node in walk(ast.ClassDef)]


def methods(node):
    return [one for one in node.body if isinstance(one, ast.FunctionDef)]


def stored_in(node):
    """The attributes that a class assigns."""
    attributes = [one for one in ast.walk(node) if isinstance(one, ast.Attribute)]
    return {one.attr for one in attributes if isinstance(one.ctx, ast.Store)}


def class_values(node):
    """The names that a class gives plain values."""
    return {row.targets[0].id for row in node.body if isinstance(row, ast.Assign)}


def off_class(node):
    """The static and class methods of a class."""
    return {one.name for one in methods(node) if one.decorator_list and not is_property(one)}


def is_simple(node):
    """Whether a value may be assigned where a block ends: a name, an attribute or a plain value."""
    return isinstance(node, (ast.Name, ast.Attribute)) or (isinstance(node, ast.Constant) and node.value is not None)


def generators():
    """The functions that yield, nested ones apart: there are none."""
    return [node for _, node in walk(ast.FunctionDef) if any(isinstance(one, (ast.Yield, ast.YieldFrom)) for one in ast.walk(node))]


def is_call(node, *names):
    return isinstance(node, ast.Call) and isinstance(node.func, ast.Name) and node.func.id in names


class Classes(unittest.TestCase):
    def test_special_methods(self):
        for node in classes():
            names = [one.name for one in methods(node)]
            self.assertEqual(len(names), len(set(names)), node.name)
            special = {name for name in names if name.startswith("__")}
            self.assertLessEqual(special, SPECIAL, node.name)
            if "__getitem__" in names:
                self.assertIn("__iter__", names, node.name)

    def test_names_of_methods_and_attributes(self):
        stored, plain, properties = set(), set(), set()
        for node in classes():
            for one in methods(node):
                (properties if is_property(one) else plain).add(one.name)
            stored |= stored_in(node)
        # A property without a setter is nowhere an attribute that is assigned, not even in an error.
        self.assertEqual(stored & (plain | properties), set())
        self.assertEqual(plain & properties, set())
        self.assertEqual((stored | plain | properties) & {"keys", "items", "values", "mro"}, set())
        read = {node.attr for _, node in walk(ast.Attribute) if isinstance(node.ctx, ast.Load)}
        values = set().union(*[class_values(node) for node in classes()])
        self.assertEqual(values & (stored | plain | properties), set())
        self.assertLessEqual(read, stored | plain | properties | values | METHODS)

    def test_classes_are_called_or_asked_after(self):
        names = {node.name: class_values(node) | off_class(node) for node in classes()}
        values = set().union(*[class_values(node) for node in classes()])
        called = [id(node.func) for _, node in walk(ast.Call)]
        for name, node in walk(ast.Attribute):
            if isinstance(node.value, ast.Name) and node.value.id in names:
                self.assertIn(node.attr, names[node.value.id], name)
                self.assertIsInstance(node.ctx, ast.Load, name)
                self.assertEqual(id(node) in called, node.attr not in values, name)

    def test_properties_are_plain(self):
        for node in classes():
            for one in methods(node):
                if is_property(one):
                    body = [row for row in one.body if not isinstance(row, ast.Expr)]
                    self.assertEqual([type(row) for row in body], [ast.Return], one.name)

    def test_len_and_text(self):
        for node in classes():
            for one in methods(node):
                if one.name == "__len__":
                    self.assertTrue(is_call(one.body[-1].value, "len"), node.name)


class Values(unittest.TestCase):
    def test_no_generator_expressions_and_few_sets(self):
        self.assertEqual(walk((ast.GeneratorExp, ast.SetComp, ast.Set, ast.NamedExpr, ast.Match)), [])
        inside = [id(node.args[0]) for _, node in walk(ast.Call) if is_call(node, "sorted", "len")]
        for name, node in walk(ast.Call):
            if is_call(node, "set", "frozenset"):
                self.assertIn(id(node), inside, name)

    def test_augmented_assignments(self):
        for name, node in walk(ast.AugAssign):
            self.assertIsInstance(node.op, ast.Add, name)
            self.assertIsInstance(node.value, ast.Constant, name)
            self.assertIsInstance(node.value.value, int, name)

    def test_powers(self):
        for name, node in walk(ast.BinOp):
            self.assertNotIsInstance(node.op, ast.Pow, name)
            if isinstance(node.op, ast.Mod):
                self.fail(name)

    def test_is(self):
        for name, node in walk(ast.Compare):
            for op, right in zip(node.ops, node.comparators):
                if isinstance(op, (ast.Is, ast.IsNot)):
                    self.assertIsInstance(right, ast.Constant, name)
                    self.assertIn(right.value, (None, True, False), name)

    def test_stars_in_calls(self):
        for name, node in walk(ast.Call):
            for k, one in enumerate(node.args):
                if isinstance(one, ast.Starred):
                    self.assertIsInstance(one.value, (ast.Name, ast.Attribute), name)
                    self.assertEqual(k, len(node.args) - 1, name)
                    self.assertEqual(node.keywords, [], name)

    def test_what_builtins_take(self):
        listed = (ast.ListComp, ast.List, ast.Name, ast.Attribute, ast.Subscript, ast.BinOp, ast.Tuple, ast.DictComp, ast.Call)
        for name, node in walk(ast.Call):
            if is_call(node, "reversed"):
                self.assertTrue(is_call(node.args[0], "list", "tuple", "sorted", "range"), name)
            if is_call(node, *TAKERS) and len(node.args) == 1:
                self.assertIsInstance(node.args[0], listed, name)
            if is_call(node, *BUILTINS):
                self.assertLessEqual({one.arg for one in node.keywords}, {"key", "default", "start"}, name)

    def test_what_is_iterated_at_once(self):
        taken = [id(node.iter) for _, node in walk((ast.For, ast.comprehension))]
        taken += [id(node.args[0]) for _, node in walk(ast.Call) if is_call(node, "list", "tuple") and node.args]
        for name, node in walk(ast.Call):
            views = isinstance(node.func, ast.Attribute) and node.func.attr in ("items", "keys", "values")
            if views or is_call(node, "zip", "enumerate", "reversed", "range"):
                inner = is_call(node, "range") and id(node) in [
                    id(one.args[0]) for _, one in walk(ast.Call) if is_call(one, "reversed")
                ]
                self.assertTrue(id(node) in taken or inner, (name, node.lineno))

    def test_methods_are_known(self):
        own = {one.name for node in classes() for one in methods(node)}
        for name, node in walk(ast.Call):
            if isinstance(node.func, ast.Attribute):
                self.assertIn(node.func.attr, METHODS | own, name)
                if node.func.attr in METHODS:
                    self.assertEqual(node.keywords, [], name)


class Errors(unittest.TestCase):
    def test_what_is_raised(self):
        for name, node in walk(ast.Raise):
            self.assertTrue(node.exc is None or isinstance(node.exc, ast.Call), name)
            if isinstance(node.cause, ast.Call):
                self.assertIn(node.cause.func.id, {one.name for one in classes() if one.bases}, name)
            elif node.cause is not None:
                self.assertIsInstance(node.cause, ast.Constant, name)

    def test_what_is_caught(self):
        own = {node.name for node in classes() if node.bases}
        for name, node in walk(ast.ExceptHandler):
            caught = node.type.elts if isinstance(node.type, ast.Tuple) else [node.type]
            self.assertLessEqual({one.id for one in caught}, own, name)
        for name, node in walk(ast.Try):
            self.assertEqual(node.orelse, [], name)
            self.check_ending(name, node.finalbody)

    def check_ending(self, name, rows):
        """What ends a block assigns only what is there already."""
        for row in rows:
            self.assertIsInstance(row, ast.Assign, (name, row.lineno))
            self.assertIsInstance(row.targets[0], (ast.Name, ast.Attribute), (name, row.lineno))
            self.assertTrue(is_simple(row.value), (name, row.lineno))

    def test_blocks(self):
        for name, node in walk(ast.With):
            for one in node.items:
                self.assertIsInstance(one.context_expr, ast.Call, name)
        for name, node in walk(ast.FunctionDef):
            if node.name == "__exit__":
                self.check_ending(name, node.body)
                self.assertEqual([one.arg for one in node.args.args][1:], ["kind", "value", "trace"], name)

    def test_bases(self):
        own = {node.name for node in classes() if node.bases}
        for node in classes():
            for base in node.bases:
                self.assertIn(base.id, own | PYTHON_ERRORS, node.name)


class Generators(unittest.TestCase):
    def test_their_names(self):
        names = [node.name for node in generators()]
        others = [node.name for _, node in walk(ast.FunctionDef)]
        for name in names:
            self.assertEqual(others.count(name), 1, name)

    def test_their_calls(self):
        names = [node.name for node in generators()]
        self.assertIn("trees", names)
        taken = [id(node.iter) for _, node in walk(ast.For)]
        for name, node in walk(ast.Call):
            if is_call(node, *names):
                self.assertIn(id(node), taken, name)
                self.assertTrue(all(isinstance(one, (ast.Name, ast.Constant)) for one in node.args), name)
        for name, node in walk(ast.ImportFrom):
            self.assertEqual({one.name for one in node.names} & set(names), set(), name)


class Names(unittest.TestCase):
    def test_locals_are_no_imports_and_no_classes(self):
        for name, tree in PARSED.items():
            taken = {one.name for row in tree.body if isinstance(row, ast.ImportFrom) for one in row.names}
            taken |= {row.name for row in tree.body if isinstance(row, (ast.ClassDef, ast.FunctionDef))}
            for node in ast.walk(tree):
                if isinstance(node, ast.arg):
                    self.assertNotIn(node.arg, taken, name)
                if isinstance(node, ast.Name) and isinstance(node.ctx, (ast.Store, ast.Del)):
                    self.assertNotIn(node.id, taken, name)

    def test_each_name_is_bound_once(self):
        for name, tree in PARSED.items():
            bound = [one.name for row in tree.body if isinstance(row, ast.ImportFrom) for one in row.names]
            bound += [row.name for row in tree.body if isinstance(row, (ast.ClassDef, ast.FunctionDef))]
            bound += [row.targets[0].id for row in tree.body if isinstance(row, ast.Assign)]
            self.assertEqual(len(bound), len(set(bound)), name)

    def test_module_level(self):
        for name, tree in PARSED.items():
            for row in tree.body:
                self.assertIsInstance(row, (ast.Expr, ast.ImportFrom, ast.ClassDef, ast.FunctionDef, ast.Assign), name)
                if isinstance(row, ast.Expr):
                    self.assertIsInstance(row.value, ast.Constant, name)
                if isinstance(row, ast.Assign) and not self.is_table(tree, row):
                    ast.literal_eval(row.value)

    def is_table(self, tree, row):
        """Whether the row names a dict of functions that are defined above it."""
        above = {one.name for one in tree.body if isinstance(one, ast.FunctionDef) and one.lineno < row.lineno}
        if not isinstance(row.value, ast.Dict):
            return False
        return all(isinstance(one, ast.Name) and one.id in above for one in row.value.values)

    def test_what_stands_in_a_table_is_named_and_called(self):
        found = 0
        for name, tree in PARSED.items():
            tables = {row.targets[0].id for row in tree.body if isinstance(row, ast.Assign) and self.is_table(tree, row)}
            named = [id(row.value) for row in ast.walk(tree) if isinstance(row, ast.Assign)]
            for node in ast.walk(tree):
                if isinstance(node, ast.Subscript) and isinstance(node.value, ast.Name) and node.value.id in tables:
                    found += 1
                    self.assertIn(id(node), named, (name, node.lineno))
        self.assertGreater(found, 0)

    def test_imports_go_no_way_round(self):
        below = {}
        for name, tree in PARSED.items():
            modules = [row.module for row in tree.body if isinstance(row, ast.ImportFrom) and row.module not in LIBRARY]
            below[name] = {module.split(".")[1] + ".py" for module in modules}
        while below:
            free = [name for name, needed in below.items() if not needed & set(below)]
            self.assertNotEqual(free, [], below)
            for name in free:
                del below[name]

    def test_imports_are_used(self):
        for name, tree in PARSED.items():
            taken = {one.name for row in tree.body if isinstance(row, ast.ImportFrom) for one in row.names}
            used = {node.id for node in ast.walk(tree) if isinstance(node, ast.Name)}
            self.assertLessEqual(taken, used, name)

    def test_library_names_are_called(self):
        for name, tree in PARSED.items():
            library = {
                one.name for row in tree.body if isinstance(row, ast.ImportFrom) and row.module in LIBRARY
                for one in row.names
            }
            called = [id(node.func) for node in ast.walk(tree) if isinstance(node, ast.Call)]
            for node in ast.walk(tree):
                if isinstance(node, ast.Name) and node.id in library:
                    self.assertIn(id(node), called, name)


if __name__ == "__main__":
    unittest.main()
