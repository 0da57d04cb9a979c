import itertools
import unittest

from fivetrees.errors import InvalidRows, InvalidText, NotASchema
from fivetrees.schemas import Schema
from fivetrees.trees import Tree
from tests import plain
from tests.examples import BOUGHT, EXAMPLES, MOST, SUMS
from tests.test_trees import CHAIN
from tests.values import no_names, no_numbers, no_strings, no_tuples

ONE = ("one", ())


class OfRows(unittest.TestCase):
    def setUp(self):
        self.sums = Schema(*SUMS)
        self.bought = Schema(*BOUGHT)

    def read(self, *rows):
        return Tree.of_rows(self.sums, rows)

    def refuse(self, index, rows, schema=None):
        for call in (
            lambda: Tree.of_rows(schema or self.sums, rows),
            lambda: Tree.of_rows(rows=rows, schema=schema or self.sums),
        ):
            with self.assertRaises(InvalidRows) as caught:
                call()
            self.assertIs(type(caught.exception.index), type(index))
            self.assertEqual(caught.exception.index, index)

    def test_rows_of_trees(self):
        for example in EXAMPLES:
            schema = Schema(*example)
            for kind in schema.kinds:
                for one in plain.all_trees(schema, kind, 7)[:200]:
                    tree = Tree.of_rows(schema, plain.rows(one))
                    self.assertEqual(plain.plain(tree), one)
                    self.assertTrue(tree == plain.made(schema, one))
                    self.assertTrue(Tree.of_rows(Schema(*example), tree.rows) == tree)
                    self.assertTrue(Tree.of_rows(rows=tree.rows, schema=schema) == tree)

    def test_rows_in_another_order(self):
        tree = self.read(ONE, ("mul", (0, 0)), ("add", (0, 0)), ("mul", (2, 1)))
        self.assertEqual(str(tree), "one; add 0 0; mul 0 0; mul 1 2")
        dot, nil = ("dot", ()), ("nil", ())
        tree = Tree.of_rows(self.bought, (nil, dot, ("put", (1, 0))))
        self.assertEqual(tree.rows, (dot, nil, ("put", (0, 1))))

    def test_equal_rows(self):
        tree = self.read(ONE, ONE, ("add", (0, 1)), ("add", (1, 0)), ONE, ("mul", (2, 3)), ("mul", (3, 2)))
        self.assertEqual(tree.rows, (ONE, ("add", (0, 0)), ("mul", (1, 1))))
        self.assertEqual(tree.size, 7)

    def test_rows_that_are_not_needed(self):
        self.assertEqual(self.read(ONE, ("add", (0, 0)), ONE).rows, (ONE,))
        tree = self.read(ONE, ("mul", (0, 0)), ("add", (0, 0)), ("mul", (1, 1)), ("add", (0, 2)))
        self.assertEqual(str(tree), "one; add 0 0; add 0 1")
        tree = Tree.of_rows(self.bought, (("nil", ()), ("dot", ())))
        self.assertEqual((str(tree), tree.kind), ("dot", "item"))

    def test_two_hundred_rows(self):
        self.assertEqual(Tree.of_rows(self.sums, (ONE,) * 200).rows, (ONE,))
        rows = (ONE, *[("add", (k, k)) for k in range(199)])
        tree = Tree.of_rows(self.sums, rows)
        self.assertEqual((tree.rows, tree.size), (rows, 2 ** 200 - 1))
        self.refuse(None, (ONE,) * 201)
        self.refuse(None, (*rows, ONE))

    def test_no_schema(self):
        for value in no_strings() + [SUMS, str(self.sums), Schema]:
            for rows in ((ONE,), (), 1):
                with self.assertRaises(NotASchema) as caught:
                    Tree.of_rows(value, rows)
                self.assertIs(caught.exception.value, value)

    def test_no_tuple_and_no_rows(self):
        for value in no_tuples() + [[ONE], "one", {ONE: ONE}, Tree(self.sums, "one")]:
            self.refuse(None, value)
        self.refuse(None, ())
        self.refuse(None, (1,) * 201)

    def refuse_row(self, row):
        """The row is wrong by itself, needed or not."""
        self.refuse(0, (row,))
        self.refuse(0, (row, ONE))
        self.refuse(1, (ONE, row))
        self.refuse(1, (ONE, row, row))
        self.refuse(2, (ONE, ("add", (0, 0)), row, ONE))
        self.refuse(199, (ONE,) * 199 + (row,))

    def test_no_pairs(self):
        for value in no_tuples() + [(), ("one",), ("one", (), ()), ["one", ()], (ONE,), ((), "one"), ()]:
            self.refuse_row(value)

    def test_names(self):
        for value in no_names() + ["on", "ones", "num", ("one",)]:
            self.refuse_row((value, ()))

    def test_numbers_that_are_no_tuple(self):
        for value in no_tuples() + [[], "", "00"]:
            self.refuse_row(("one", value))
            self.refuse_row(("add", value))
        self.refuse(1, (ONE, ("add", [0, 0])))
        self.refuse(1, (ONE, ("add", {0: 0, 1: 0})))

    def test_how_many_numbers(self):
        self.refuse(0, (("one", (0,)),))
        for numbers in ((), (0,), (0, 0, 0), (0,) * 100):
            self.refuse(1, (ONE, ("add", numbers)))
            self.refuse(1, (ONE, ("add", numbers), ONE))

    def test_numbers_of_no_earlier_row(self):
        for number in (1, 2, 3, -1, -2, 200, 10 ** 39, -10 ** 39):
            for numbers in ((number, 0), (0, number), (number, number)):
                self.refuse(1, (ONE, ("add", numbers)))
                self.refuse(1, (ONE, ("add", numbers), ONE, ONE))
        self.refuse(0, (("add", (0, 0)), ONE))
        self.refuse(2, (ONE, ONE, ("add", (0, 2)), ONE))

    def test_no_numbers(self):
        for value in no_numbers():
            self.refuse(2, (ONE, ONE, ("add", (value, 0))))
            self.refuse(2, (ONE, ONE, ("add", (0, value)), ONE))

    def test_true_and_false(self):
        for numbers in ((True, 0), (0, False), (False, False), (True, True)):
            self.refuse(2, (ONE, ONE, ("add", numbers), ONE))
        self.refuse_row((True, ()))
        self.refuse_row(("one", False))

    def test_trees_of_another_kind(self):
        dot, nil = ("dot", ()), ("nil", ())
        rows = (dot, nil)
        for numbers in itertools.product((0, 1), repeat=2):
            if numbers != (0, 1):
                self.refuse(2, (*rows, ("put", numbers)), self.bought)
                self.refuse(2, (*rows, ("put", numbers), nil), self.bought)
        self.assertEqual(str(Tree.of_rows(self.bought, (*rows, ("put", (0, 1))))), "dot; nil; put 0 1")

    def test_the_first_wrong_one(self):
        self.refuse(1, (ONE, ("add", (0, 1)), 5))
        self.refuse(1, (ONE, 5, ("add", (0, 5))))


def bent(text):
    """The text bent at one place: a sign left out, put in or exchanged."""
    signs = "a019; \n-+\t\u0661\u00b2.,_"
    for place in range(len(text) + 1):
        if place < len(text):
            yield text[:place] + text[place + 1:]
        for sign in signs:
            yield text[:place] + sign + text[place:]
            if place < len(text):
                yield text[:place] + sign + text[place + 1:]


class Read(unittest.TestCase):
    def setUp(self):
        self.sums = Schema(*SUMS)

    def refuse(self, text, schema=None):
        for call in (
            lambda: Tree.read(schema or self.sums, text),
            lambda: Tree.read(text=text, schema=schema or self.sums),
        ):
            with self.assertRaises(InvalidText) as caught:
                call()
            self.assertIs(caught.exception.value, text)

    def test_texts_of_trees(self):
        for example in EXAMPLES:
            schema = Schema(*example)
            for kind in schema.kinds:
                for one in plain.all_trees(schema, kind, 7)[:200]:
                    tree = Tree.read(schema, plain.text(one))
                    self.assertEqual(plain.plain(tree), one)
                    self.assertTrue(tree == plain.made(schema, one))
                    self.assertEqual(str(tree), plain.text(one))
                    self.assertTrue(Tree.read(text=str(tree), schema=schema) == tree)

    def test_great_trees(self):
        rows = (ONE, *[("add", (k, k)) for k in range(199)])
        tree = Tree.of_rows(self.sums, rows)
        self.assertTrue(Tree.read(self.sums, str(tree)) == tree)
        self.assertEqual(Tree.read(self.sums, str(tree)).size, 2 ** 200 - 1)
        self.refuse(str(tree) + "; add 199 199")
        self.refuse(str(tree) + "; one")
        self.refuse("; ".join(["one"] * 201))

    def test_a_text_of_more_than_5000_signs(self):
        schema = Schema(("kindkind",), (("leafleaf", "kindkind", ()), ("nodenode", "kindkind", ("kindkind",) * 3)))
        tree = Tree(schema, "leafleaf")
        for _ in range(199):
            tree = Tree(schema, "nodenode", tree, tree, tree)
        self.assertGreater(tree.size, 3 ** 198)
        self.assertTrue(Tree.read(schema, str(tree)) == tree)
        self.refuse(str(tree) + " " * 1000, schema)

    def test_no_schema(self):
        for value in no_strings() + [SUMS, str(self.sums)]:
            for text in ("one", "", 1):
                with self.assertRaises(NotASchema) as caught:
                    Tree.read(value, text)
                self.assertIs(caught.exception.value, value)

    def test_no_string(self):
        for value in no_strings() + [(ONE,), b"one", ["one"], Tree(self.sums, "one")]:
            self.refuse(value)

    def test_bent_at_one_place(self):
        right = {plain.text(one): one for one in plain.all_trees(self.sums, "num", 7)}
        found = 0
        for text in ("one; add 0 0; mul 1 0", "one", "one; mul 0 0; add 1 1"):
            for other in bent(text):
                if other in right:
                    found += 1
                    self.assertEqual(plain.plain(Tree.read(self.sums, other)), right[other])
                else:
                    self.refuse(other)
        self.assertGreater(found, 5)

    def test_other_orders_and_rows_too_many(self):
        for text in (
            "one; mul 0 0; add 0 0; add 2 1", "one; one; add 0 1", "one; one; add 0 0", "one; add 0 0; one",
            "one; add 0 0; add 0 0; mul 1 2", "one; mul 0 0; add 0 0", "one; one", "one; add 0 0; mul 0 0; mul 1 0",
            "add 0 0; one", "one; add 1 1", "one; add 0 1", "one; mul 0 0; add 0 0; mul 0 1",
        ):
            self.refuse(text)
        for text in ("one; add 0 0; mul 0 0; mul 1 2", "one; add 0 0; mul 0 0; mul 2 1"):
            if text.endswith("1 2"):
                self.assertEqual(str(Tree.read(self.sums, text)), text)
            else:
                self.refuse(text)
        bought = Schema(*BOUGHT)
        self.refuse("nil; dot; put 1 0", bought)
        self.assertEqual(str(Tree.read(bought, "dot; nil; put 0 1")), "dot; nil; put 0 1")

    def test_numbers(self):
        for word in ("00", "01", "000", "+0", "-0", "0.0", "0x0", "", " 0", "0 ", "\u0660", "\u00b2", "0_0", "O", "o"):
            self.refuse(f"one; add 0 {word}")
            self.refuse(f"one; add {word} 0")
        chain = "; ".join(["end"] + [f"up {k}" for k in range(12)])
        schema = Schema(*CHAIN)
        self.assertEqual(str(Tree.read(schema, chain)), chain)
        self.refuse(chain.replace("up 5", "up 05"), schema)
        self.refuse(chain.replace("up 11", "up 011"), schema)
        for word in ("9" * 4, "9" * 40, "1" * 4400, "0" * 4400):
            self.refuse(f"one; add 0 {word}")

    def test_blanks(self):
        text = "one; add 0 0"
        for other in (
            "", " ", ";", "; ", text + ";", text + "; ", "; " + text, " " + text, text + " ", text + "\n",
            text.replace("; ", ";"), text.replace("; ", " ; "), text.replace("; ", ";  "), text.replace("; ", ", "),
            text.replace("; ", "\n"), text.replace(" ", "  "), text.replace(" ", "\t"), "One", "ONE", "on", "ones",
        ):
            self.refuse(other)

    def test_other_schemas(self):
        self.refuse("nil")
        self.refuse("one", Schema(*BOUGHT))
        self.refuse("dot; put 0 0", Schema(*BOUGHT))
        self.refuse("a; z9 0; z9 1", Schema(*MOST))
        self.assertEqual(Tree.read(Schema(*MOST), "a; z9 0").kind, "item")


if __name__ == "__main__":
    unittest.main()
