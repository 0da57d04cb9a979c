import random
import unittest

from fivetrees.errors import InvalidNumber, InvalidTree, NotATree, NotAWriter, OtherSchema, TooLong
from fivetrees.longtexts import LongText
from fivetrees.samples import full_writer, looking_writer, moding_writer, sums_schema
from fivetrees.schemas import Schema
from fivetrees.trees import Tree, trees
from fivetrees.writers import Writer
from tests import chance, plain
from tests.examples import BOUGHT, SUMS
from tests.test_tree_paths import great
from tests.test_trees import CHAIN, chain
from tests.test_writing import BOUGHT_RULES
from tests.values import no_numbers, no_strings

PAIRS = (
    ("m", "end", (), ("ab",)), ("m", "up", (None,), ("-", (0, "m"))),
    ("m", "two", (None, None), ("(", (0, "m"), "::", (1, "m"), ")")),
)


def length_of(levels):
    """The length of the text of a great tree of so many levels, as PAIRS writes it."""
    return 6 * 2 ** levels - 4


def sign_at(levels, place):
    """The sign at a place of this text."""
    while levels:
        inner = length_of(levels - 1)
        if place in (0, 4 - 1 + 2 * inner):
            return "(" if place == 0 else ")"
        if place in (inner + 1, inner + 2):
            return ":"
        place = place - 1 if place <= inner else place - 3 - inner
        levels -= 1
    return "ab"[place]


class Small(unittest.TestCase):
    def check(self, writer, tree, text):
        long = LongText(writer, tree)
        self.assertEqual(long.length, len(text))
        self.assertIs(type(long.length), int)
        for place in range(-len(text), len(text)):
            self.assertEqual(long[place], text[place])
        for start in range(len(text) + 1):
            for count in range(len(text) - start + 1):
                self.assertEqual(long.piece(start, count), text[start:start + count])
        for signs in ("", "a", "b", "ab", "aab", "1", "(+", "".join(sorted(set(text))), text[:5000], "~\n"):
            self.assertEqual(long.count(signs), sum(sign in signs for sign in text))
        self.assertTrue(long.writer == writer)
        self.assertTrue(long.tree == tree)

    def test_the_samples(self):
        for writer in (looking_writer(), moding_writer(), "<\n" + full_writer() + ">"):
            for tree in trees(sums_schema(), "num", most=7):
                self.check(writer, tree, writer(tree))

    def test_writers_by_chance(self):
        source = random.Random(6)
        for _ in range(60):
            schema = chance.schema(source)
            writer = chance.writer(source, schema)
            for one in plain.all_trees(schema, schema.root, 6)[:12]:
                self.check(writer, plain.made(schema, one), plain.whole(writer, one))

    def test_empty_texts(self):
        schema = Schema(*CHAIN)
        rules = (
            ("m", "end", (), ()), ("m", "up", (None,), ((0, "m"),)), ("m", "two", (None, None), ((1, "m"), (0, "m"))),
        )
        for tree in (great(schema, 0), great(schema, 3), great(schema, 199), chain(schema, 199)):
            self.check(Writer(schema, rules, "m"), tree, "")
            self.check(Writer(schema, rules, "m", before="a", after="bc"), tree, "abc")

    def test_fields_that_are_not_written(self):
        schema = Schema(*CHAIN)
        rules = (
            ("m", "end", (), ("e",)), ("m", "up", (None,), ("u",)), ("m", "two", (None, None), ("t", (1, "m"))),
        )
        for writer in (Writer(schema, rules, "m"), Writer(schema, rules, "m", before="<", after="!")):
            for tree, text in ((great(schema, 20), "t" * 20 + "e"), (chain(schema, 9), "u")):
                self.check(writer, tree, writer.before + text + writer.after)

    def test_by_name(self):
        long = LongText(tree=Tree.read(sums_schema(), "one; add 0 0"), writer=full_writer())
        self.assertEqual((long.piece(count=3, start=1), long.count(signs="1(")), ("1+1", 3))
        self.assertEqual(long.piece(0, count=2), "(1")

    def test_equality(self):
        tree = Tree(sums_schema(), "one")
        long, other = LongText(full_writer(), tree), LongText(full_writer(), tree)
        self.assertTrue(long == long)
        self.assertTrue(long != other)
        self.assertFalse(long == "1")
        self.assertIs(bool(long), True)

    def test_the_methods_stand_in_the_class(self):
        for name in ["__init__", "writer", "length", "__getitem__", "piece", "count"]:
            self.assertIn(name, vars(LongText))
        self.assertEqual(LongText.__module__, "fivetrees.longtexts")
        long = LongText(full_writer(), Tree(sums_schema(), "one"))
        self.assertIn("tree", vars(long))
        for name in ("writer", "length"):
            with self.assertRaises(AttributeError):
                setattr(long, name, 1)
        self.assertRaises(TypeError, list, long)


class Great(unittest.TestCase):
    def setUp(self):
        self.schema = Schema(*CHAIN)
        self.writer = Writer(self.schema, PAIRS, "m")

    def places(self, levels):
        """Places at both ends, where parts meet, and some in between."""
        length = length_of(levels)
        near = [0, length // 2, length_of(levels - 1), length_of(levels - 1) + 4, length_of(levels - 2), length - 1]
        source = random.Random(levels)
        found = [place + step for place in near for step in range(-8, 9)] + [source.randrange(length) for _ in range(40)]
        return [place for place in found if 0 <= place < length]

    def test_the_own_look_is_right(self):
        for levels in range(8):
            text = self.writer(great(self.schema, levels))
            self.assertEqual(len(text), length_of(levels))
            self.assertEqual("".join(sign_at(levels, place) for place in range(len(text))), text)

    def test_signs(self):
        for levels in (11, 58, 60, 61, 130, 199):
            long = LongText(self.writer, great(self.schema, levels))
            length = length_of(levels)
            self.assertEqual(long.length, length)
            for place in self.places(levels):
                self.assertEqual(long[place], sign_at(levels, place))
                self.assertEqual(long[place - length], sign_at(levels, place))
            self.assertEqual((long[0], long[-1], long[length - 1], long[-length]), ("(", ")", ")", "("))
        self.assertGreater(length_of(58), 2 ** 60)

    def test_pieces(self):
        for levels in (11, 60, 199):
            long = LongText(self.writer, great(self.schema, levels))
            for start in self.places(levels)[::3]:
                for count in (0, 1, 2, 7, 100):
                    count = min(count, long.length - start)
                    text = "".join(sign_at(levels, start + k) for k in range(count))
                    self.assertEqual(long.piece(start, count), text)

    def test_long_pieces(self):
        levels = 60
        long = LongText(self.writer, great(self.schema, levels))
        for start in (0, 1, length_of(59) - 2500, length_of(levels) // 2 - 2500, length_of(levels) - 5000):
            text = "".join(sign_at(levels, start + k) for k in range(5000))
            self.assertEqual(long.piece(start, 5000), text)
        self.assertEqual(long.piece(long.length, 0), "")
        self.assertEqual(long.piece(0, 0), "")
        self.assertEqual(long.piece(2 ** 60, 0), "")

    def test_counts(self):
        for levels in (11, 60, 199):
            long = LongText(self.writer, great(self.schema, levels))
            ends, twos = 2 ** levels, 2 ** levels - 1
            self.assertEqual((long.count("a"), long.count("b"), long.count("ab"), long.count("ba")), (ends, ends, 2 * ends, 2 * ends))
            self.assertEqual((long.count("("), long.count(":"), long.count("::"), long.count("(:)")), (twos, 2 * twos, 2 * twos, 4 * twos))
            self.assertEqual((long.count(""), long.count("-"), long.count("xyz~ \n")), (0, 0, 0))
            self.assertEqual((long.count("aaaaab"), long.count("ab(:)")), (2 * ends, long.length))
            self.assertEqual((long.count("ab" * 2500), long.count("xa" * 2500)), (2 * ends, ends))

    def test_before_and_after(self):
        writer = "ab" + self.writer + "(-)"
        long = LongText(writer, great(self.schema, 70))
        self.assertEqual(long.length, length_of(70) + 5)
        self.assertEqual((long.piece(0, 5), long.piece(long.length - 5, 5)), ("ab(((", "))(-)"))
        self.assertEqual([long[k] for k in (0, 1, 2, -1, -2, -3, -4)], ["a", "b", "(", ")", "-", "(", ")"])
        self.assertEqual((long.count("a"), long.count("-")), (2 ** 70 + 1, 1))
        self.assertEqual(long[-5 - length_of(70)], "a")

    def test_long_ways_down_to_each_sign(self):
        # Each sign lies below a chain, so a piece of many signs has many ways down.
        schema = Schema(*CHAIN)
        rules = (("m", "end", (), ("e",)), ("m", "up", (None,), ((0, "m"),)), ("m", "two", (None, None), ((0, "m"), (1, "m"))))
        tree = chain(schema, 150)
        for _ in range(40):
            tree = Tree(schema, "two", tree, tree)
        long = LongText(Writer(schema, rules, "m"), tree)
        self.assertEqual(long.length, 2 ** 40)
        self.assertEqual(long.piece(2 ** 39 - 2500, 5000), "e" * 5000)
        self.assertEqual(long.count("e"), 2 ** 40)

    def test_modes_and_looks(self):
        tree = Tree.read(sums_schema(), "one; add 0 0; mul 1 1")
        for _ in range(64):
            tree = Tree(sums_schema(), "mul", Tree(sums_schema(), "add", tree, tree), tree)
        looking, moding = LongText(looking_writer(), tree), LongText(moding_writer(), tree)
        self.assertEqual(looking.length, moding.length)
        self.assertGreater(looking.length, 2 ** 60)
        for start in (0, 10 ** 9, 2 ** 60, looking.length - 300, looking.length // 2):
            self.assertEqual(looking.piece(start, 300), moding.piece(start, 300))
        for signs in "1+*()":
            self.assertEqual(looking.count(signs), moding.count(signs))
        self.assertRaises(TooLong, looking_writer(), tree)

    def test_other_texts_of_ones(self):
        tree = great(Schema(*CHAIN), 199)
        long = LongText(Writer(Schema(*CHAIN), PAIRS, "m"), tree)
        self.assertTrue(long.tree == tree)
        self.assertGreater(tree.size, 2 ** 190)


class Refused(unittest.TestCase):
    def number(self, value, call):
        with self.assertRaises(InvalidNumber) as caught:
            call()
        self.assertIs(caught.exception.value, value)

    def test_places(self):
        for levels in (0, 1, 70):
            long = LongText(Writer(Schema(*CHAIN), PAIRS, "m"), great(Schema(*CHAIN), levels))
            more = [long.length, -long.length - 1, 10 ** 39, -10 ** 39, True, False, slice(0, 1), slice(None), [0]]
            for value in no_numbers() + more:
                self.number(value, lambda: long[value])

    def test_places_of_an_empty_text(self):
        long = LongText(Writer(Schema(("a",), (("b", "a", ()),)), (("m", "b", (), ()),), "m"), Tree(Schema(("a",), (("b", "a", ()),)), "b"))
        for value in (0, -1, 1):
            self.number(value, lambda: long[value])
        self.assertEqual((long.length, long.piece(0, 0)), (0, ""))
        self.number(1, lambda: long.piece(0, 1))
        self.number(1, lambda: long.piece(1, 0))

    def test_starts(self):
        long = LongText(full_writer(), Tree.read(sums_schema(), "one; add 0 0"))
        for value in no_numbers() + [-1, -5, 6, 10 ** 39, -10 ** 39, True, False]:
            for count in (0, 1, -1, "a"):
                self.number(value, lambda: long.piece(value, count))
                self.number(value, lambda: long.piece(count=count, start=value))

    def test_counts(self):
        long = LongText(full_writer(), Tree.read(sums_schema(), "one; add 0 0"))
        for value in no_numbers() + [-1, 6, 10 ** 39, True, False]:
            self.number(value, lambda: long.piece(0, value))
        for start in range(6):
            more = 6 - start
            self.number(more, lambda: long.piece(start, more))
            self.assertEqual(len(long.piece(start, more - 1)), more - 1)

    def test_five_thousand_signs(self):
        long = LongText(Writer(Schema(*CHAIN), PAIRS, "m"), great(Schema(*CHAIN), 70))
        for start in (0, 7, 2 ** 60):
            self.assertEqual(len(long.piece(start, 5000)), 5000)
            for count in (5001, 6000, 10 ** 39):
                self.number(count, lambda: long.piece(start, count))
        start = long.length - 4999
        self.assertEqual(len(long.piece(start, 4999)), 4999)
        self.number(5000, lambda: long.piece(start, 5000))

    def test_no_writer(self):
        for value in no_strings() + [full_writer().form, sums_schema(), Tree(sums_schema(), "one"), Writer]:
            for tree in (1, Tree(sums_schema(), "one")):
                with self.assertRaises(NotAWriter) as caught:
                    LongText(value, tree)
                self.assertIs(caught.exception.value, value)

    def test_no_tree(self):
        for value in no_strings() + ["one", full_writer(), (("one", ()),)]:
            with self.assertRaises(NotATree) as caught:
                LongText(full_writer(), value)
            self.assertIs(caught.exception.value, value)

    def test_other_schemas(self):
        self.assertRaises(OtherSchema, LongText, full_writer(), Tree(Schema(SUMS[0], SUMS[1][:1]), "one"))
        self.assertRaises(OtherSchema, LongText, full_writer(), Tree(Schema(*BOUGHT), "dot"))
        self.assertEqual(LongText(full_writer(), Tree(Schema(*SUMS), "one")).length, 1)

    def test_trees_of_another_kind(self):
        schema = Schema(*BOUGHT)
        dot = Tree(schema, "dot")
        with self.assertRaises(InvalidTree) as caught:
            LongText(Writer(schema, BOUGHT_RULES, "m"), dot)
        self.assertTrue(caught.exception.value is dot)


if __name__ == "__main__":
    unittest.main()
