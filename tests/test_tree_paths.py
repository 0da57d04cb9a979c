import itertools
import unittest

from fivetrees.errors import InvalidPath, InvalidTree, OtherSchema, TooManyRows
from fivetrees.schemas import Schema
from fivetrees.trees import Tree, compare
from tests import plain
from tests.examples import BOUGHT, EXAMPLES, SUMS
from tests.test_trees import CHAIN, chain
from tests.values import no_numbers, no_strings, no_tuples


def great(schema, many, end="end"):
    """A tree whose size is doubled with each further row."""
    tree = Tree(schema, end)
    for _ in range(many):
        tree = Tree(schema, "two", tree, tree)
    return tree


class At(unittest.TestCase):
    def test_every_path_in_small_trees(self):
        for example in EXAMPLES:
            schema = Schema(*example)
            for one in plain.all_trees(schema, schema.root, 7)[:100]:
                tree = plain.made(schema, one)
                for path in plain.paths(one):
                    self.assertEqual(plain.plain(tree[path]), plain.at(one, path))
                    self.assertTrue(tree[path] == plain.made(schema, plain.at(one, path)))

    def test_no_tuple(self):
        tree = Tree.read(Schema(*SUMS), "one; add 0 0; mul 1 1")
        for value in no_tuples() + [0, 1, [0], [], "0", slice(0, 1), slice(None), Ellipsis]:
            self.refuse(tree, value)

    def refuse(self, tree, path):
        with self.assertRaises(InvalidPath) as caught:
            tree[path]
        self.assertIs(caught.exception.value, path)
        for other in (tree, 1):
            with self.assertRaises(InvalidPath) as caught:
                tree.put(path, other)
            self.assertIs(caught.exception.value, path)

    def test_no_numbers_of_fields(self):
        tree = Tree.read(Schema(*SUMS), "one; add 0 0; mul 1 0")
        for number in (-1, -2, 2, 3, 10 ** 39, -10 ** 39):
            self.refuse(tree, (number,))
            self.refuse(tree, (0, number))
            self.refuse(tree, (number, 0))
        for value in no_numbers():
            self.refuse(tree, (value,))
            self.refuse(tree, (0, value))
        self.refuse(tree, (True,))
        self.refuse(tree, (False, False))
        self.refuse(tree, (1, 0))
        self.refuse(tree, (0, 1, 0))
        self.refuse(Tree(Schema(*SUMS), "one"), (0,))
        self.refuse(tree, (0,) * 5000)

    def test_great_trees(self):
        schema = Schema(*CHAIN)
        tree = great(schema, 199)
        for many in (0, 1, 5, 100, 198, 199):
            for path in ((0,) * many, (1,) * many, tuple(k % 2 for k in range(many))):
                self.assertTrue(tree[path] == great(schema, 199 - many))
        self.refuse(tree, (0,) * 200)

    def test_trees_are_not_iterated_over(self):
        tree = Tree.read(Schema(*SUMS), "one; add 0 0")
        self.assertRaises(TypeError, list, tree)


class Put(unittest.TestCase):
    def test_every_path_in_small_trees(self):
        for example in EXAMPLES:
            schema = Schema(*example)
            others = {kind: plain.all_trees(schema, kind, 5)[:6] for kind in schema.kinds}
            for one in plain.all_trees(schema, schema.root, 7)[:25]:
                tree = plain.made(schema, one)
                for path in plain.paths(one):
                    for other in others[tree[path].kind]:
                        new = tree.put(path, plain.made(Schema(*example), other))
                        self.assertEqual(plain.plain(new), plain.put(one, path, other))
                        self.assertTrue(new == plain.made(schema, plain.put(one, path, other)))
                        self.assertEqual(plain.plain(tree), one)
                        self.assertTrue(new[path] == plain.made(schema, other))

    def test_by_name(self):
        sums = Schema(*SUMS)
        tree, one = Tree.read(sums, "one; add 0 0; mul 1 1"), Tree(sums, "one")
        self.assertEqual(str(tree.put(path=(0,), other=one)), "one; add 0 0; mul 0 1")
        self.assertEqual(str(tree.put(other=one, path=(1, 1))), str(tree))
        self.assertTrue(tree.put((), one) == one)

    def test_trees_that_do_not_fit(self):
        bought = Schema(*BOUGHT)
        tree = Tree.read(bought, "dot; nil; put 0 1")
        kinds, constructors = BOUGHT
        other = Schema(kinds, constructors + (("dash", "item", ()),))
        values = no_strings() + ["nil", tree.rows, bought, Tree(other, "nil"), Tree(other, "dot")]
        for path, value in itertools.product([(), (0,), (1,)], values):
            self.refuse(tree, path, value)
        self.refuse(tree, (), tree[(0,)])
        self.refuse(tree, (0,), tree)
        self.refuse(tree, (1,), tree[(0,)])
        self.assertEqual(str(tree.put((1,), tree)), "dot; nil; put 0 1; put 0 2")

    def refuse(self, tree, path, value):
        with self.assertRaises(InvalidTree) as caught:
            tree.put(path, value)
        self.assertIs(caught.exception.value, value)

    def test_too_many_rows(self):
        schema = Schema(*CHAIN)
        low, high = chain(schema, 99), chain(schema, 150)
        for many, right in ((100, True), (101, False), (199, False)):
            other = great(schema, many)
            if right:
                self.assertEqual(len(low.put((0,) * 99, other)), 200)
            else:
                with self.assertRaises(TooManyRows) as caught:
                    low.put((0,) * 99, other)
                self.assertEqual(caught.exception.limit, 200)
        wide = Tree(schema, "two", high, Tree(schema, "end"))
        self.assertEqual(len(wide.put((1,), great(schema, 48))), 200)
        with self.assertRaises(TooManyRows):
            wide.put((1,), great(schema, 49))
        self.refuse(wide, (1,), great(Schema(*SUMS[:1], SUMS[1] + (("two", "num", ("num", "num")),)), 3, "one"))

    def test_great_trees(self):
        schema = Schema(*CHAIN)
        tree = great(schema, 198)
        self.assertGreater(tree.size, 2 ** 190)
        new = tree.put((0,), Tree(schema, "end"))
        self.assertEqual((new.size, len(new)), (1 + 1 + 2 ** 198 - 1, 199))
        new = tree.put((), Tree(schema, "up", tree))
        self.assertEqual((new.size, len(new)), (tree.size + 1, 200))
        self.assertTrue(tree.put((1, 0, 1), tree[(0, 0, 0)]) == tree)

    def test_great_trees_with_too_many_rows(self):
        schema = Schema(*CHAIN)
        tree = great(schema, 120)
        other = Tree(schema, "up", Tree(schema, "end"))
        # Along the path each tree stands beside what it was before.
        self.assertEqual(len(tree.put((1,) * 78, tree[(1,) * 78])), 121)
        for many, right in ((1, True), (78, True), (79, True), (80, False), (100, False)):
            new = Tree(schema, "up", tree[(1,) * (many + 1)])
            if right:
                self.assertEqual(len(tree.put((1,) * many, new)), 120 + 1 + many)
            else:
                with self.assertRaises(TooManyRows):
                    tree.put((1,) * many, new)
        with self.assertRaises(TooManyRows):
            tree.put((1,) * 120, other)


class GreatOrder(unittest.TestCase):
    def test_equality_and_order(self):
        schema, same = Schema(*CHAIN), Schema(*CHAIN)
        tree, other = great(schema, 195), great(same, 195)
        self.assertTrue(tree == other)
        self.assertEqual(compare(tree, other), 0)
        up = Tree(schema, "up", Tree(schema, "up", Tree(schema, "end")))
        two = great(schema, 1)
        deep = great(schema, 60)
        path = tuple(k % 2 for k in range(59))
        one, other = deep.put(path, up), deep.put(path, two)
        self.assertEqual(one.size, other.size)
        self.assertEqual((compare(one, other), compare(other, one), compare(one, one)), (-1, 1, 0))
        self.assertFalse(one == other)
        left = Tree(schema, "two", other, one)
        right = Tree(schema, "two", one, other)
        self.assertEqual((compare(left, right), compare(right, left)), (1, -1))
        self.assertEqual(compare(Tree(schema, "up", tree), tree), 1)

    def test_schemas(self):
        with self.assertRaises(OtherSchema):
            compare(Tree(Schema(*CHAIN), "end"), Tree(Schema(*SUMS), "one"))


if __name__ == "__main__":
    unittest.main()
