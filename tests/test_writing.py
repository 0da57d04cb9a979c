import random
import unittest

from fivetrees.errors import InvalidTree, NotATree, OtherSchema, TooLong, UnknownMode
from fivetrees.samples import full_writer, looking_writer, moding_writer, sums_schema
from fivetrees.schemas import Schema
from fivetrees.trees import Tree, trees
from fivetrees.writers import Writer
from tests import chance, plain
from tests.examples import BOUGHT, MOST, SUMS
from tests.test_tree_paths import great
from tests.test_trees import CHAIN, chain
from tests.values import no_names, no_strings

BOUGHT_RULES = (
    ("m", "nil", (), ("[]",)), ("m", "put", (None, None), ((0, "n"), ":", (1, "m"))), ("n", "dot", (), (".",)),
    ("n", "put", (None, None), ("no",)),
)


class Writes(unittest.TestCase):
    def test_the_samples(self):
        looking, moding, full = looking_writer(), moding_writer(), full_writer()
        for text, short, long in (
            ("one", "1", "1"),
            ("one; add 0 0", "1+1", "(1+1)"),
            ("one; mul 0 0", "1*1", "(1*1)"),
            ("one; add 0 0; mul 1 0", "(1+1)*1", "((1+1)*1)"),
            ("one; add 0 0; mul 0 1", "1*(1+1)", "(1*(1+1))"),
            ("one; add 0 0; mul 1 1", "(1+1)*(1+1)", "((1+1)*(1+1))"),
            ("one; mul 0 0; add 1 0", "1*1+1", "((1*1)+1)"),
            ("one; mul 0 0; add 0 1; mul 0 2", "1*(1+1*1)", "(1*(1+(1*1)))"),
        ):
            tree = Tree.read(sums_schema(), text)
            self.assertEqual([looking(tree), moding(tree), full(tree)], [short, short, long])
            self.assertEqual(looking(tree=tree), short)

    def test_small_trees(self):
        for writer in (looking_writer(), moding_writer(), "<" + full_writer() + "\n>"):
            for tree in trees(Schema(*SUMS), "num", most=9):
                one = plain.plain(tree)
                self.assertEqual(writer(tree), plain.whole(writer, one))
                for mode in writer.modes:
                    self.assertEqual(writer.written(tree, mode), plain.write(writer.rules, one, mode))

    def test_writers_by_chance(self):
        source = random.Random(5)
        for _ in range(150):
            schema = chance.schema(source)
            writer = chance.writer(source, schema)
            for kind in schema.kinds:
                for one in plain.all_trees(schema, kind, 6)[:40]:
                    tree = plain.made(schema, one)
                    if kind == schema.root:
                        self.assertEqual(writer(tree), plain.whole(writer, one))
                    for mode in writer.modes:
                        self.check_written(writer, tree, one, mode)

    def check_written(self, writer, tree, one, mode):
        if (mode, tree.kind) in needed(writer):
            self.assertEqual(writer.written(tree, mode), plain.write(writer.rules, one, mode))
            self.assertEqual(writer.written(mode=mode, tree=tree), writer.written(tree, mode))
        else:
            with self.assertRaises(UnknownMode) as caught:
                writer.written(tree, mode)
            self.assertEqual(caught.exception.value, mode)

    def test_the_first_rule_that_fits(self):
        names = ("one", "add", "mul")
        looks = [(("mul",), ("mul", "add")), (None, ("one",)), (("add", "one"), None), (None, None), (("one",), None)]
        for shift in range(5):
            chosen = looks[shift:] + looks[:shift]
            rules = tuple(("m", "add", look, (str(k),)) for k, look in enumerate(chosen))
            rules += (("m", "one", (), ("x",)), ("m", "mul", (None, None), ("y",)))
            writer = Writer(Schema(*SUMS), rules, "m")
            for tree in trees(Schema(*SUMS), "num", most=7):
                if tree.name == "add":
                    tops = [field.name for field in tree.fields]
                    fits = [all(top in (look or names) for top, look in zip(tops, row)) for row in chosen]
                    self.assertEqual(writer(tree), str(fits.index(True)))

    def test_fields_that_are_not_written(self):
        rules = (
            ("m", "one", (), ("1",)), ("m", "add", (None, None), ("<", (1, "m"), ">")), ("m", "mul", (None, None), ()),
        )
        writer = Writer(Schema(*SUMS), rules, "m")
        for text, written in (
            ("one; add 0 0; mul 1 1; add 2 0", "<1>"), ("one; mul 0 0", ""), ("one; add 0 0; add 0 1", "<<1>>"),
            ("one; mul 0 0; add 0 1", "<>"),
        ):
            self.assertEqual(writer(Tree.read(Schema(*SUMS), text)), written)

    def test_fields_in_another_order(self):
        schema = Schema(("a",), (("x", "a", ()), ("y", "a", ()), ("z", "a", ()), ("t", "a", ("a", "a", "a"))))
        leaves = tuple(("m", name, (), (name,)) for name in "xyz")
        tree = Tree.read(schema, "x; y; z; t 0 1 2")
        for order in ((0, 1, 2), (2, 1, 0), (1, 2, 0), (2, 0)):
            pieces = tuple((k, "m") for k in order)
            writer = Writer(schema, leaves + (("m", "t", (None,) * 3, pieces),), "m")
            self.assertEqual(writer(tree), "".join("xyz"[k] for k in order))

    def test_one_field_in_two_modes(self):
        rules = moding_writer().rules
        tree = Tree.read(sums_schema(), "one; add 0 0; mul 1 1; add 1 2")
        self.assertEqual(moding_writer()(tree), "1+1+(1+1)*(1+1)")
        writer = Writer(sums_schema(), rules, "part")
        self.assertEqual(writer(tree), "(1+1+(1+1)*(1+1))")
        self.assertEqual(moding_writer().written(tree, "part"), "(1+1+(1+1)*(1+1))")

    def test_before_and_after(self):
        one = Tree(sums_schema(), "one")
        writer = Writer(sums_schema(), full_writer().rules, "all", before="<\n", after=" ~")
        self.assertEqual((writer(one), writer.written(one, "all")), ("<\n1 ~", "1"))

    def test_equal_schemas(self):
        self.assertEqual(full_writer()(Tree(Schema(*SUMS), "one")), "1")

    def test_equal_calls(self):
        writer, tree = moding_writer(), Tree.read(sums_schema(), "one; add 0 0")
        self.assertEqual([writer(tree), writer(tree)], ["1+1"] * 2)


def needed(writer):
    """The pairs (mode, kind) that are needed."""
    schema, found, waiting = writer.schema, set(), [(writer.start, writer.schema.root)]
    while waiting:
        pair = waiting.pop()
        found.add(pair)
        for mode, name, _, pieces in writer.rules:
            _, kind, fields = schema.constructor(name)
            below = [(piece[1], fields[piece[0]]) for piece in pieces if not isinstance(piece, str)]
            if (mode, kind) == pair:
                waiting += [one for one in below if one not in found]
    return found


class Refused(unittest.TestCase):
    def test_no_tree(self):
        writer = full_writer()
        for value in no_strings() + ["one", (("one", ()),), writer, writer.schema]:
            for call in (lambda: writer(value), lambda: writer.written(value, "nope")):
                with self.assertRaises(NotATree) as caught:
                    call()
                self.assertIs(caught.exception.value, value)

    def test_other_schemas(self):
        kinds, constructors = SUMS
        for schema in (Schema(kinds, constructors[:1]), Schema(kinds, constructors[::-1])):
            tree = Tree(schema, "one")
            self.assertRaises(OtherSchema, full_writer(), tree)
            self.assertRaises(OtherSchema, full_writer().written, tree, "nope")
            self.assertRaises(OtherSchema, full_writer().written, tree, "all")

    def test_trees_of_another_kind(self):
        schema = Schema(*BOUGHT)
        writer = Writer(schema, BOUGHT_RULES, "m")
        tree = Tree.read(schema, "dot; nil; put 0 1")
        self.assertEqual(writer(tree), ".:[]")
        with self.assertRaises(InvalidTree) as caught:
            writer(tree[(0,)])
        self.assertIs(type(caught.exception.value), Tree)
        self.assertTrue(caught.exception.value == tree[(0,)])
        self.assertEqual(writer.written(tree[(0,)], "n"), ".")

    def test_modes(self):
        schema = Schema(*BOUGHT)
        writer = Writer(schema, BOUGHT_RULES, "m")
        nil, dot = Tree(schema, "nil"), Tree(schema, "dot")
        for tree, modes in ((nil, ["n", "k", "nil", "list"]), (dot, ["m", "k", "dot", "item"])):
            for value in no_names() + modes + [("m",), ("n",)]:
                with self.assertRaises(UnknownMode) as caught:
                    writer.written(tree, value)
                self.assertIs(caught.exception.value, value)
        self.assertEqual((writer.written(nil, "m"), writer.written(dot, "n")), ("[]", "."))


class Long(unittest.TestCase):
    def setUp(self):
        self.schema = Schema(*CHAIN)

    def writer(self, up, end, **around):
        rules = (("m", "end", (), end), ("m", "up", (None,), up), ("m", "two", (None, None), ((0, "m"), (1, "m"))))
        return Writer(self.schema, rules, "m", **around)

    def long(self, found, call):
        with self.assertRaises(TooLong) as caught:
            call()
        self.assertEqual(caught.exception.found, found)
        self.assertIs(type(caught.exception.found), int)

    def test_five_thousand_signs(self):
        writer = self.writer(("a" * 20, "b" * 5, (0, "m")), ("c" * 20, "d" * 5))
        tree = chain(self.schema, 199)
        self.assertEqual(writer(tree), ("a" * 20 + "b" * 5) * 199 + "c" * 20 + "d" * 5)
        self.assertEqual(len(writer(tree)), 5000)
        self.assertEqual(len(writer.written(tree, "m")), 5000)
        for longer in ("x" + writer, writer + "x"):
            self.long(5001, lambda: longer(tree))
            self.assertEqual(len(longer.written(tree, "m")), 5000)
        longer = "x" * 20 + writer + "y" * 20
        self.long(5040, lambda: longer(tree))
        longer = self.writer(("a" * 20, "b" * 5, (0, "m")), ("c" * 20, "d" * 6))
        self.long(5001, lambda: longer(tree))
        self.long(5001, lambda: longer.written(tree, "m"))

    def test_before_and_after_are_counted(self):
        writer = self.writer(("a" * 20, "b" * 5, (0, "m")), ("c" * 5,), before="<" * 10, after=">" * 10)
        tree = chain(self.schema, 199)
        self.assertEqual(len(writer(tree)), 5000)
        self.assertTrue(writer(tree).startswith("<" * 10 + "a" * 20 + "b" * 5 + "a"))
        self.assertTrue(writer(tree).endswith("b" + "c" * 5 + ">" * 10))
        self.long(5001, lambda: (writer + "!")(tree))

    def test_great_trees(self):
        writer = self.writer(((0, "m"),), ("c",))
        for many in (12, 13, 60, 61, 150, 199):
            tree = great(self.schema, many)
            if many == 12:
                self.assertEqual(writer(tree), "c" * 4096)
            else:
                self.long(2 ** many, lambda: writer(tree))
                self.long(2 ** many, lambda: writer.written(tree, "m"))
                self.long(2 ** many + 3, lambda: ("ab" + writer + "d")(tree))
        self.assertGreater(great(self.schema, 199).size, 2 ** 190)

    def test_great_trees_with_short_texts(self):
        rules = (
            ("m", "end", (), ("e",)), ("m", "up", (None,), ((0, "n"),)), ("m", "two", (None, None), ("t", (1, "m"))),
            ("n", "end", (), ()), ("n", "up", (None,), ()), ("n", "two", (None, None), ((1, "n"), (0, "n"))),
        )
        writer = Writer(self.schema, rules, "m")
        tree = great(self.schema, 199)
        self.assertEqual(writer(tree), "t" * 199 + "e")
        self.assertEqual(writer.written(Tree(self.schema, "two", tree[(0,)], tree[(0, 0)]), "n"), "")
        self.assertEqual(writer(Tree(self.schema, "up", tree[(1,)])), "")

    def test_modes_of_great_trees(self):
        rules = (
            ("a", "end", (), ("1",)), ("a", "up", (None,), ()), ("a", "two", (None, None), ((0, "a"), (1, "b"))),
            ("b", "end", (), ("22",)), ("b", "up", (None,), ()), ("b", "two", (None, None), ((0, "b"), (1, "a"))),
        )
        writer = Writer(self.schema, rules, "a")
        for many in range(11):
            tree = great(self.schema, many)
            self.assertEqual(writer(tree), plain.whole(writer, plain.plain(tree)))
        lengths = {"a": 1, "b": 2}
        for _ in range(199):
            lengths = {"a": lengths["a"] + lengths["b"], "b": lengths["a"] + lengths["b"]}
        self.long(lengths["a"], lambda: writer(great(self.schema, 199)))
        self.assertGreater(lengths["a"], 2 ** 190)

    def test_a_schema_with_more_kinds(self):
        schema = Schema(*MOST)
        writer = chance.writer(random.Random(3), schema)
        for one in plain.all_trees(schema, schema.root, 9)[:60]:
            self.assertEqual(writer(plain.made(schema, one)), plain.whole(writer, one))


if __name__ == "__main__":
    unittest.main()
