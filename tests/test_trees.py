import unittest

from fivetrees.errors import InvalidFields, NotASchema, TooManyRows, UnknownConstructor
from fivetrees.schemas import Schema
from fivetrees.trees import Tree
from tests import plain
from tests.examples import BOUGHT, EXAMPLES, MOST, SUMS
from tests.values import Alike, Broken, nested, no_names, no_strings

CHAIN = (("n",), (("end", "n", ()), ("up", "n", ("n",)), ("two", "n", ("n", "n"))))


def chain(schema, many, tree=None):
    """A tree with one row more for each of the constructors up."""
    tree = Tree(schema, "end") if tree is None else tree
    for _ in range(many):
        tree = Tree(schema, "up", tree)
    return tree


class Made(unittest.TestCase):
    def setUp(self):
        self.sums = Schema(*SUMS)
        self.one = Tree(self.sums, "one")

    def test_one(self):
        one = self.one
        self.assertEqual((one.name, one.kind, one.fields, one.size, one.depth), ("one", "num", (), 1, 1))
        self.assertEqual((one.rows, str(one), len(one), repr(one)), ((("one", ()),), "one", 1, "Tree(one, size 1)"))
        self.assertIs(bool(one), True)
        self.assertTrue(one.schema == self.sums)

    def test_shared_parts(self):
        two = Tree(self.sums, "add", self.one, self.one)
        four = Tree(self.sums, "mul", two, two)
        self.assertEqual(four.rows, (("one", ()), ("add", (0, 0)), ("mul", (1, 1))))
        self.assertEqual((four.size, four.depth, len(four)), (7, 3, 3))
        self.assertEqual((str(four), repr(four)), ("one; add 0 0; mul 1 1", "Tree(mul, size 7)"))
        self.assertEqual(four.fields, (two, two))

    def test_equal_parts_that_are_not_the_same_object(self):
        def two(schema):
            return Tree(schema, "add", Tree(schema, "one"), Tree(schema, "one"))

        other = Schema(*SUMS)
        four = Tree(self.sums, "mul", two(self.sums), two(other))
        self.assertEqual(str(four), "one; add 0 0; mul 1 1")
        self.assertTrue(four == Tree(other, "mul", two(other), two(self.sums)))
        self.assertEqual((four.size, len(four)), (7, 3))

    def test_parts_of_a_part(self):
        two = Tree(self.sums, "add", self.one, self.one)
        three = Tree(self.sums, "mul", self.one, two)
        tree = Tree(self.sums, "add", Tree(self.sums, "mul", two, self.one), three)
        self.assertEqual(str(tree), "one; add 0 0; mul 1 0; mul 0 1; add 2 3")
        self.assertEqual((tree.size, tree.depth), (11, 4))
        tree = Tree(self.sums, "add", three, two)
        self.assertEqual(str(tree), "one; add 0 0; mul 0 1; add 2 1")
        tree = Tree(self.sums, "add", self.one, three)
        self.assertEqual(str(tree), "one; add 0 0; mul 0 1; add 0 2")

    def test_first_fields_come_first(self):
        schema = Schema(*BOUGHT)
        nil, dot = Tree(schema, "nil"), Tree(schema, "dot")
        tree = Tree(schema, "put", dot, nil)
        self.assertEqual(tree.rows, (("dot", ()), ("nil", ()), ("put", (0, 1))))
        tree = Tree(schema, "put", dot, tree)
        self.assertEqual(str(tree), "dot; nil; put 0 1; put 0 2")
        self.assertEqual((tree.kind, tree.fields[0].kind), ("list", "item"))

    def test_every_small_tree(self):
        for example in EXAMPLES:
            schema = Schema(*example)
            for kind in schema.kinds:
                for one in plain.all_trees(schema, kind, 7)[:200]:
                    tree = plain.made(schema, one)
                    self.assertEqual((tree.name, tree.kind), (one[0], kind))
                    self.assertEqual(tree.rows, plain.rows(one))
                    self.assertEqual(str(tree), plain.text(one))
                    self.assertEqual((tree.size, tree.depth), (plain.size(one), plain.depth(one)))
                    self.assertEqual(len(tree), len(plain.rows(one)))
                    self.assertEqual(repr(tree), f"Tree({one[0]}, size {plain.size(one)})")
                    self.assertEqual(plain.plain(tree), one)

    def test_by_name(self):
        self.assertTrue(Tree(schema=self.sums, name="one") == self.one)
        self.assertTrue(Tree(name="one", schema=self.sums) == self.one)
        self.assertTrue(Tree(self.sums, name="one") == self.one)

    def test_kinds_of_the_results(self):
        tree = Tree(self.sums, "add", self.one, self.one)
        self.assertEqual([type(one) for one in (tree.rows, tree.fields, tree.size, tree.depth)], [tuple, tuple, int, int])
        for row in tree.rows:
            self.assertEqual((type(row), type(row[0]), type(row[1])), (tuple, str, tuple))

    def test_the_methods_stand_in_the_class(self):
        listed = ["__init__", "of_rows", "read", "schema", "rows", "fields", "size", "depth"]
        for name in listed + ["__getitem__", "put", "__str__", "__len__", "__eq__", "__repr__"]:
            self.assertIn(name, vars(Tree))
        for name in ("name", "kind"):
            self.assertIn(name, vars(self.one))
        self.assertIsInstance(vars(Tree)["of_rows"], classmethod)
        self.assertIsInstance(vars(Tree)["read"], classmethod)
        self.assertEqual(Tree.__module__, "fivetrees.trees")

    def test_properties_are_not_assigned(self):
        for name in ("schema", "rows", "fields", "size", "depth"):
            with self.assertRaises(AttributeError):
                setattr(self.one, name, ())
        with self.assertRaises(TypeError):
            self.one[()] = self.one

    def test_great_trees(self):
        schema = Schema(*CHAIN)
        tree = Tree(schema, "end")
        for many in range(1, 200):
            tree = Tree(schema, "two", tree, tree)
            self.assertEqual((tree.size, tree.depth, len(tree)), (2 ** (many + 1) - 1, many + 1, many + 1))
        self.assertGreater(tree.size, 2 ** 190)
        self.assertEqual(tree.rows, (("end", ()), *[("two", (k, k)) for k in range(199)]))
        self.assertEqual(str(tree), "; ".join(["end"] + [f"two {k} {k}" for k in range(199)]))
        self.assertEqual(repr(tree), f"Tree(two, size {2 ** 200 - 1})")
        self.assertTrue(tree == Tree(schema, "two", tree.fields[0], tree.fields[1]))
        self.assertTrue(tree != tree.fields[0])


class Equality(unittest.TestCase):
    def check(self, one, other, equal):
        self.assertIs(one == other, equal)
        self.assertIs(one != other, not equal)
        self.assertIs(other == one, equal)
        self.assertIs(other != one, not equal)

    def test_small_trees(self):
        schema, same = Schema(*SUMS), Schema(*SUMS)
        known = plain.all_trees(schema, "num", 5)
        for k, one in enumerate(known):
            for m, other in enumerate(known):
                self.check(plain.made(schema, one), plain.made(same, other), k == m)

    def test_other_schemas(self):
        kinds, constructors = SUMS
        one = Tree(Schema(*SUMS), "one")
        for other in (
            Schema(kinds, constructors[:1]), Schema(kinds, constructors[:2]), Schema(kinds, constructors[::-1]),
            Schema(("num", "b"), constructors + (("leaf", "b", ()),)),
            Schema(("b", "num"), constructors + (("leaf", "b", ()),)),
        ):
            self.assertEqual(Tree(other, "one").rows, one.rows)
            self.check(one, Tree(other, "one"), False)

    def test_other_values(self):
        tree = Tree(Schema(*SUMS), "one")
        for value in no_strings() + [tree.rows, str(tree), tree.schema, Tree]:
            if not isinstance(value, (Alike, Broken)):
                self.check(tree, value, False)
        for value in (Alike(), Broken()):
            self.assertIs(tree == value, False)
            self.assertIs(tree != value, True)


class Refused(unittest.TestCase):
    def setUp(self):
        self.bought = Schema(*BOUGHT)
        self.nil, self.dot = Tree(self.bought, "nil"), Tree(self.bought, "dot")

    def fields(self, index, name, *fields, schema=None):
        with self.assertRaises(InvalidFields) as caught:
            Tree(schema or self.bought, name, *fields)
        self.assertIs(type(caught.exception.index), type(index))
        self.assertEqual(caught.exception.index, index)

    def test_no_schema(self):
        for value in no_strings() + ["num", SUMS, Schema, self.nil]:
            with self.assertRaises(NotASchema) as caught:
                Tree(value, "nope", 1)
            self.assertIs(caught.exception.value, value)

    def test_no_constructor(self):
        for value in no_names() + ["list", "item", "ni", "nill", ("nil",)]:
            for fields in ((), (1,), (self.dot, self.nil)):
                with self.assertRaises(UnknownConstructor) as caught:
                    Tree(self.bought, value, *fields)
                self.assertIs(caught.exception.value, value)

    def test_numbers_of_fields(self):
        self.fields(None, "put")
        self.fields(None, "put", self.dot)
        self.fields(None, "put", self.dot, self.nil, self.nil)
        self.fields(None, "nil", self.nil)
        self.fields(None, "nil", 1)
        self.fields(None, "put", (self.dot, self.nil))
        self.fields(None, "put", *[1] * 100)

    def test_fields_that_are_no_trees(self):
        for value in no_strings() + ["nil", (("nil", ()),), self.bought]:
            self.fields(0, "put", value, self.nil)
            self.fields(0, "put", value, value)
            self.fields(1, "put", self.dot, value)

    def test_fields_of_another_kind(self):
        self.fields(0, "put", self.nil, self.nil)
        self.fields(0, "put", self.nil, self.dot)
        self.fields(1, "put", self.dot, self.dot)

    def test_fields_of_another_schema(self):
        kinds, constructors = BOUGHT
        other = Schema(kinds, constructors + (("dash", "item", ()),))
        self.fields(0, "put", Tree(other, "dot"), self.nil)
        self.fields(1, "put", self.dot, Tree(other, "nil"))
        same = Schema(*BOUGHT)
        self.assertEqual(str(Tree(same, "put", self.dot, self.nil)), "dot; nil; put 0 1")

    def test_the_first_wrong_field(self):
        schema = Schema(*MOST)
        nil, leaf = Tree(schema, "nil"), Tree(schema, "a")
        last = Tree(schema, "end", Tree(schema, "z9", leaf), leaf)
        self.fields(0, "a2345678", 1, 2, 3, schema=schema)
        item = Tree(schema, "z9", leaf)
        self.fields(1, "a2345678", item, leaf, 1, schema=schema)
        self.fields(2, "a2345678", item, nil, leaf, schema=schema)
        self.assertEqual(Tree(schema, "a2345678", item, nil, last).size, 8)

    def test_number_of_rows(self):
        schema = Schema(*CHAIN)
        tree = chain(schema, 199)
        self.assertEqual((len(tree), tree.size, tree.depth), (200, 200, 200))
        with self.assertRaises(TooManyRows) as caught:
            Tree(schema, "up", tree)
        self.assertEqual(caught.exception.limit, 200)
        with self.assertRaises(TooManyRows):
            Tree(schema, "two", tree, tree)

    def test_number_of_rows_that_are_shared(self):
        schema = Schema(*CHAIN)
        low = chain(schema, 99)
        left, right = chain(schema, 49, low), Tree(schema, "two", low, low)
        for _ in range(49):
            right = Tree(schema, "up", right)
        self.assertEqual(len(Tree(schema, "two", left, right)), 200)
        with self.assertRaises(TooManyRows) as caught:
            Tree(schema, "two", left, Tree(schema, "up", right))
        self.assertEqual(caught.exception.limit, 200)

    def test_fields_ahead_of_rows(self):
        schema = Schema(*CHAIN)
        tree = chain(schema, 199)
        self.fields(None, "up", tree, tree, schema=schema)
        self.fields(1, "two", tree, 1, schema=schema)

    def test_nested_values(self):
        self.fields(1, "put", self.dot, nested(30))


if __name__ == "__main__":
    unittest.main()
