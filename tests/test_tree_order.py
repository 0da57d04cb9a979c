import itertools
import types
import unittest

from fivetrees.errors import InvalidNumber, NotASchema, NotATree, OtherSchema, UnknownKind
from fivetrees.schemas import Schema
from fivetrees.trees import Tree, compare, trees
from tests import plain
from tests.examples import BOUGHT, EXAMPLES, LEAST, MOST, SUMS
from tests.values import no_names, no_numbers, no_strings

WIDE = (
    ("a", "b"),
    (
        ("c", "a", ("b", "b", "b")), ("d", "b", ("b",)), ("e", "a", ()), ("f", "b", ()), ("g", "b", ("a", "a")),
        ("h", "a", ("a", "b")),
    ),
)


class Compare(unittest.TestCase):
    def test_small_trees(self):
        for example, most in ((SUMS, 5), (BOUGHT, 7), (MOST, 7), (WIDE, 4)):
            schema, same = Schema(*example), Schema(*example)
            known = [one for kind in schema.kinds for one in plain.all_trees(schema, kind, most)[:25]]
            made = [(plain.order(schema, one), plain.made(schema, one), plain.made(same, one)) for one in known]
            for (key, one, _), (other_key, _, other) in itertools.product(made, repeat=2):
                expected = -1 if key < other_key else 1 if key > other_key else 0
                self.assertEqual(compare(one, other), expected)
                self.assertEqual(compare(other=other, one=one), expected)
                self.assertIs(type(compare(one, other)), int)

    def test_the_same_size_and_top(self):
        sums = Schema(*SUMS)
        for one, other in (
            ("one; add 0 0; add 0 1", "one; add 0 0; add 1 0"),
            ("one; add 0 0; add 0 1", "one; mul 0 0; add 0 1"),
            ("one; mul 0 0; add 0 1", "one; add 0 0; add 1 0"),
            ("one; add 0 0; mul 0 0; add 1 2", "one; mul 0 0; add 0 0; add 1 2"),
            ("one; mul 0 0; mul 1 0; add 0 2", "one; add 0 0; add 1 1"),
        ):
            one, other = Tree.read(sums, one), Tree.read(sums, other)
            self.assertEqual((one.size, one.name), (other.size, other.name))
            self.assertEqual((compare(one, other), compare(other, one)), (-1, 1))

    def test_places_and_not_names(self):
        schema = Schema(("a",), (("z", "a", ()), ("b", "a", ()), ("up", "a", ("a",))))
        self.assertEqual(compare(Tree(schema, "z"), Tree(schema, "b")), -1)
        self.assertEqual(compare(Tree(schema, "b"), Tree(schema, "z")), 1)
        self.assertEqual(compare(Tree(schema, "up", Tree(schema, "z")), Tree(schema, "b")), 1)

    def test_different_kinds(self):
        bought = Schema(*BOUGHT)
        self.assertEqual(compare(Tree(bought, "dot"), Tree(bought, "nil")), 1)
        self.assertEqual(compare(Tree(bought, "nil"), Tree(bought, "dot")), -1)

    def test_errors(self):
        one, other = Tree(Schema(*SUMS), "one"), Tree(Schema(*LEAST), "b")
        for value in no_strings() + ["one", one.rows, one.schema, Tree]:
            for call in (lambda: compare(value, value), lambda: compare(value, one)):
                with self.assertRaises(NotATree) as caught:
                    call()
                self.assertIs(caught.exception.value, value)
            with self.assertRaises(NotATree) as caught:
                compare(one, value)
            self.assertIs(caught.exception.value, value)
        with self.assertRaises(NotATree) as caught:
            compare(1, 2)
        self.assertEqual(caught.exception.value, 1)
        self.assertRaises(OtherSchema, compare, one, other)
        self.assertRaises(OtherSchema, compare, other, one)


class Trees(unittest.TestCase):
    def test_small_ones(self):
        for example, limit in ((SUMS, 9), (BOUGHT, 12), (MOST, 9), (WIDE, 7), (LEAST, 20)):
            schema = Schema(*example)
            for kind in schema.kinds:
                for most in range(limit):
                    found = [plain.plain(tree) for tree in trees(schema, kind, most=most)]
                    self.assertEqual(found, plain.all_trees(schema, kind, most))

    def test_they_are_trees(self):
        schema = Schema(*SUMS)
        for tree in trees(schema, "num", most=7):
            self.assertIs(type(tree), Tree)
            self.assertEqual(tree.rows, plain.rows(plain.plain(tree)))
            self.assertTrue(tree == Tree.of_rows(schema, tree.rows))

    def test_their_order(self):
        for example in EXAMPLES:
            schema = Schema(*example)
            found = list(itertools.islice(trees(schema, schema.root, most=20), 400))
            for one, other in zip(found, found[1:]):
                self.assertEqual(compare(one, other), -1)

    def test_how_many(self):
        sums = Schema(*SUMS)
        self.assertEqual([len(list(trees(sums, "num", most=most))) for most in range(10)], [0, 1, 1, 3, 3, 11, 11, 51, 51, 275])
        self.assertEqual(list(trees(sums, "num", most=0)), [])
        self.assertEqual(len(list(trees(Schema(*LEAST), "a", most=20))), 1)
        up = Schema(("n",), (("end", "n", ()), ("up", "n", ("n",))))
        self.assertEqual([tree.size for tree in trees(up, "n", most=20)], list(range(1, 21)))

    def test_by_name(self):
        schema = Schema(*BOUGHT)
        found = list(map(str, trees(most=3, kind="list", schema=schema)))
        self.assertEqual(found, ["nil", "dot; nil; put 0 1"])
        self.assertEqual(list(map(str, trees(schema, kind="item", most=3))), ["dot"])
        self.assertRaises(TypeError, lambda: next(trees(schema, "list", 3)))

    def test_each_when_it_is_asked_for(self):
        found = trees(Schema(*WIDE), "a", most=20)
        self.assertIs(type(found), types.GeneratorType)
        self.assertEqual([next(found).size for _ in range(3)], [1, 3, 4])
        schema = Schema(("a",), tuple((f"c{k}", "a", ("a",) * 3) for k in range(5)) + (("leaf", "a", ()),))
        found = trees(schema, "a", most=20)
        self.assertEqual([str(next(found)) for _ in range(3)], ["leaf", "leaf; c0 0 0 0", "leaf; c1 0 0 0"])
        for _ in range(2000):
            last = next(found)
        self.assertEqual(last.size, 13)

    def test_ones_of_the_greatest_size_alone(self):
        schema = Schema(
            ("a", "b", "c"),
            (("top", "a", ("b", "b", "b")), ("mid", "b", ("c", "c", "c")), ("low", "b", ("c", "c")), ("end", "c", ())),
        )
        found = list(trees(schema, "a", most=20))
        self.assertEqual([tree.size for tree in found], [10, 11, 11, 11, 12, 12, 12, 13])
        self.assertEqual([plain.plain(tree) for tree in found], plain.all_trees(schema, "a", 13))

    def test_no_schema(self):
        for value in no_strings() + [SUMS, Schema]:
            for kind, most in (("num", 1), (1, -1)):
                with self.assertRaises(NotASchema) as caught:
                    next(trees(value, kind, most=most))
                self.assertIs(caught.exception.value, value)

    def test_no_kind(self):
        for value in no_names() + ["one", "nu", "nums", ("num",)]:
            for most in (1, -1):
                with self.assertRaises(UnknownKind) as caught:
                    next(trees(Schema(*SUMS), value, most=most))
                self.assertIs(caught.exception.value, value)

    def test_no_number(self):
        for value in no_numbers() + [-1, -2, 21, 22, 10 ** 39, -10 ** 39, True, False]:
            with self.assertRaises(InvalidNumber) as caught:
                next(trees(Schema(*SUMS), "num", most=value))
            self.assertIs(caught.exception.value, value)
        self.assertEqual(str(next(trees(Schema(*SUMS), "num", most=20))), "one")


if __name__ == "__main__":
    unittest.main()
