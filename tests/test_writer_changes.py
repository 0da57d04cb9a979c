import itertools
import random
import unittest

from fivetrees.errors import (
    InvalidNumber, InvalidRules, InvalidSigns, InvalidStart, InvalidString, MissingRule, UnknownConstructor,
)
from fivetrees.samples import full_writer, looking_writer, moding_writer, sums_schema
from fivetrees.schemas import Schema
from fivetrees.trees import Tree
from fivetrees.writers import Writer
from tests import chance, plain
from tests.examples import BOUGHT, MOST, SUMS
from tests.test_writers import ADD, MUL, ONE, RULES, SIGNS, in_mode
from tests.values import no_names, no_numbers, no_signs, no_strings, no_tuples


class Added(unittest.TestCase):
    def test_strings(self):
        writer = Writer(sums_schema(), RULES, "m", before="b", after="a")
        self.assertEqual(("x" + writer).form[3:], ("xb", "a"))
        self.assertEqual((writer + "x").form[3:], ("b", "ax"))
        self.assertEqual(("y" + ("x" + writer + "z") + "w").form[3:], ("yxb", "azw"))
        self.assertEqual(("x" + writer)(Tree(sums_schema(), "one")), "xb1a")
        self.assertTrue("" + writer == writer)
        self.assertTrue(writer + "" == writer)
        self.assertEqual((("\n ~" + writer).before, (writer + "\n ~").after), ("\n ~b", "a\n ~"))
        self.assertTrue("x" + writer == Writer(sums_schema(), RULES, "m", before="xb", after="a"))
        self.assertEqual(writer.form[3:], ("b", "a"))
        self.assertIs(type(writer + "x"), Writer)

    def test_each_sign(self):
        writer = full_writer()
        for sign in SIGNS:
            self.assertEqual(((sign + writer).before, (writer + sign).after), (sign, sign))

    def test_as_many_signs_as_there_are(self):
        for many in range(21):
            writer = Writer(sums_schema(), RULES, "m", before="b" * many, after="a" * (20 - many))
            self.assertEqual(("x" * (20 - many) + writer).before, "x" * (20 - many) + "b" * many)
            self.assertEqual((writer + "x" * many).after, "a" * (20 - many) + "x" * many)
            self.refuse_ahead(writer, "x" * (21 - many))
            self.refuse_behind(writer, "x" * (many + 1))

    def refuse_ahead(self, writer, value):
        with self.assertRaises(InvalidString) as caught:
            value + writer
        self.assertIs(caught.exception.value, value)

    def refuse_behind(self, writer, value):
        with self.assertRaises(InvalidString) as caught:
            writer + value
        self.assertIs(caught.exception.value, value)

    def test_values_of_any_kind(self):
        writer = Writer(sums_schema(), RULES, "m")
        for value in no_signs() + [["a"], ("a",), b"a", "a" * 21, "a" * 5000, sums_schema(), Tree(sums_schema(), "one")]:
            self.refuse_ahead(writer, value)
            self.refuse_behind(writer, value)
        other = full_writer()
        self.refuse_behind(writer, other)
        self.refuse_behind(other, writer)


class Spelled(unittest.TestCase):
    def test_signs(self):
        writer = "(" + full_writer() + "1"
        spelled = writer.spelled((("(", "["), (")", "\n"), ("x", "y")))
        self.assertEqual(spelled.rules[1][3], ("[", (0, "all"), "+", (1, "all"), "\n"))
        self.assertEqual((spelled.before, spelled.after, spelled.start), ("[", "1", "all"))
        tree = Tree.read(sums_schema(), "one; add 0 0; mul 1 0")
        self.assertEqual(spelled(tree), "[[[1+1\n*1\n1")
        self.assertTrue(writer.spelled(signs=()) == writer)
        self.assertTrue(writer.spelled((("(", "("), ("~", " "))) == writer)

    def test_signs_that_are_exchanged_with_each_other(self):
        writer = looking_writer().spelled((("+", "*"), ("*", "+"), ("(", ")"), (")", "1"), ("1", "(")))
        tree = Tree.read(sums_schema(), "one; add 0 0; mul 1 0; add 2 1")
        text = "".join(dict(zip("+*()1", "*+)1(")).get(sign) for sign in looking_writer()(tree))
        self.assertEqual(writer(tree), text)
        self.assertEqual(looking_writer()(tree), "(1+1)*1+1+1")
        self.assertEqual(text, ")(*(1+(*(*(")

    def test_strings_of_several_signs(self):
        rules = (("m", "one", (), ("abcab", "ca")), ("m", "add", (("one",), None), ("ab",)), ADD, MUL)
        writer = Writer(sums_schema(), rules, "m", before="abc", after="cba").spelled((("a", "b"), ("b", "a")))
        self.assertEqual(writer.rules[:2], (("m", "one", (), ("bacba", "cb")), ("m", "add", (("one",), None), ("ba",))))
        self.assertEqual((writer.before, writer.after), ("bac", "cab"))

    def test_all_signs(self):
        pairs = tuple(zip(SIGNS, SIGNS[1:] + SIGNS[0]))
        writer = Writer(sums_schema(), RULES, "m", before=SIGNS[:20], after=SIGNS[-20:])
        spelled = writer.spelled(pairs)
        self.assertEqual((spelled.before, spelled.after), (SIGNS[1:21], SIGNS[-19:] + " "))
        self.assertEqual(len(pairs), 96)
        same = writer.spelled(tuple((sign, "x") for sign in SIGNS))
        self.assertEqual((same.before, same.after), ("x" * 20, "x" * 20))

    def refuse(self, index, signs):
        for call in (lambda: full_writer().spelled(signs), lambda: full_writer().spelled(signs=signs)):
            with self.assertRaises(InvalidSigns) as caught:
                call()
            self.assertIs(type(caught.exception.index), type(index))
            self.assertEqual(caught.exception.index, index)

    def test_no_tuple(self):
        for value in no_tuples() + [[("a", "b")], {"a": "b"}, "ab"]:
            self.refuse(None, value)

    def test_no_pairs(self):
        for value in no_tuples() + [(), ("a",), ("a", "b", "c"), ["a", "b"], "ab", (("a", "b"),)]:
            self.refuse(0, (value,))
            self.refuse(1, (("a", "b"), value, ("a", "b")))
            self.refuse(2, (("a", "b"), ("b", "a"), value))

    def test_no_signs(self):
        for value in no_signs() + ["", "ab", "  ", "\n\n"]:
            self.refuse(0, ((value, "a"),))
            self.refuse(0, (("a", value),))
            self.refuse(1, (("a", "b"), ("b", value)))

    def test_signs_that_stand_twice(self):
        self.refuse(1, (("a", "b"), ("a", "b")))
        self.refuse(2, (("a", "b"), ("b", "b"), ("a", "a")))
        self.refuse(1, (("\n", "b"), ("\n", "c"), 5))
        self.refuse(1, (("a", "b"), 5, ("a", "b")))


class WithRule(unittest.TestCase):
    def test_each_place(self):
        writer = Writer(sums_schema(), RULES, "m", before="<", after=">")
        rule = ("m", "add", (("one",), None), ("new",))
        for index in range(4):
            new = writer.with_rule(index, rule)
            self.assertEqual(new.rules, RULES[:index] + (rule,) + RULES[index:])
            self.assertEqual(new.form[2:], ("m", "<", ">"))
            self.assertTrue(new == writer.with_rule(rule=rule, index=index))
        self.assertEqual(writer.rules, RULES)
        tree = Tree.read(sums_schema(), "one; add 0 0")
        self.assertEqual([writer.with_rule(index, rule)(tree) for index in range(4)], ["<new>", "<new>", "<1+1>", "<1+1>"])

    def test_indexes(self):
        writer = Writer(sums_schema(), RULES, "m")
        for value in no_numbers() + [-1, 4, 5, 10 ** 39, -10 ** 39, True, False]:
            for rule in (ONE, 1):
                with self.assertRaises(InvalidNumber) as caught:
                    writer.with_rule(value, rule)
                self.assertIs(caught.exception.value, value)

    def test_no_rules(self):
        writer = Writer(sums_schema(), RULES, "m")
        for value in no_strings() + ["m", list(ONE), ONE[:3], ("m", "nope", (), ()), ("m", "one", (), ("",))]:
            for index in range(4):
                with self.assertRaises(InvalidRules) as caught:
                    writer.with_rule(index, value)
                self.assertEqual(caught.exception.index, index)

    def test_too_many_rules(self):
        rules = RULES * 13
        writer = Writer(sums_schema(), rules, "m")
        self.assertEqual(len(writer.with_rule(0, ONE).rules), 40)
        for rule in (ONE, 1):
            with self.assertRaises(InvalidRules) as caught:
                writer.with_rule(0, ONE).with_rule(40, rule)
            self.assertIs(caught.exception.index, None)

    def test_modes(self):
        writer = Writer(sums_schema(), in_mode("a") + in_mode("b") + in_mode("c"), "b")
        fourth = ("d", "one", (), ())
        for index, wrong in ((9, 9), (7, 7), (6, 7), (0, 7), (3, 7)):
            with self.assertRaises(InvalidRules) as caught:
                writer.with_rule(index, fourth)
            self.assertEqual(caught.exception.index, wrong)
        with self.assertRaises(InvalidRules) as caught:
            writer.with_rule(4, ("a", "add", (None, None), ((0, "d"),)))
        self.assertEqual(caught.exception.index, 4)
        self.assertEqual(writer.with_rule(9, ("a", "one", (), ())).modes, ("a", "b", "c"))

    def test_rules_that_are_missing_then(self):
        writer = Writer(sums_schema(), RULES + (("n", "one", (), ()),), "m")
        with self.assertRaises(MissingRule) as caught:
            writer.with_rule(0, ("m", "mul", (("one",), None), ((1, "n"),)))
        self.assertEqual((caught.exception.mode, caught.exception.name), ("n", "add"))


class WithoutRule(unittest.TestCase):
    def test_each_place(self):
        rules = (ONE, ADD, ADD, MUL, ONE, MUL)
        writer = Writer(sums_schema(), rules, "m", before="<", after=">")
        for index in range(6):
            new = writer.without_rule(index)
            self.assertEqual(new.form[1:], (rules[:index] + rules[index + 1:], "m", "<", ">"))
            self.assertTrue(writer.without_rule(index=index) == new)
        self.assertEqual(writer.rules, rules)

    def test_indexes(self):
        writer = Writer(sums_schema(), RULES, "m")
        for value in no_numbers() + [-1, 3, 4, 10 ** 39, -10 ** 39, True, False]:
            with self.assertRaises(InvalidNumber) as caught:
                writer.without_rule(value)
            self.assertIs(caught.exception.value, value)

    def test_rules_that_are_missing_then(self):
        writer = Writer(sums_schema(), RULES, "m")
        for index, rule in enumerate(RULES):
            with self.assertRaises(MissingRule) as caught:
                writer.without_rule(index)
            self.assertEqual((caught.exception.mode, caught.exception.name), ("m", rule[1]))

    def test_the_last_rule(self):
        writer = Writer(Schema(("a",), (("b", "a", ()),)), (("m", "b", (), ()),), "m")
        with self.assertRaises(InvalidRules) as caught:
            writer.without_rule(0)
        self.assertIs(caught.exception.index, None)

    def test_the_last_rule_of_a_mode(self):
        schema = Schema(("a", "c"), (("b", "a", ("c",)), ("d", "c", ())))
        rules = (("m", "b", (None,), ((0, "n"),)), ("n", "d", (), ()), ("k", "d", (), ()))
        writer = Writer(schema, rules, "m")
        self.assertEqual(writer.without_rule(2).modes, ("m", "n"))
        with self.assertRaises(InvalidRules) as caught:
            writer.without_rule(1)
        self.assertEqual(caught.exception.index, 0)
        with self.assertRaises(InvalidStart) as caught:
            writer.without_rule(0)
        self.assertEqual(caught.exception.value, "m")


class Using(unittest.TestCase):
    def test_sums(self):
        writer = "<" + moding_writer() + ">"
        new = writer.using("add", "mul")
        self.assertEqual(new.rules, (
            ("sum", "one", (), ("1",)),
            ("sum", "mul", (None, None), ((0, "part"), "*", (1, "part"))),
            ("sum", "add", (None, None), ((0, "part"), "*", (1, "part"))),
            ("part", "one", (), ("1",)),
            ("part", "mul", (None, None), ((0, "part"), "*", (1, "part"))),
            ("part", "add", (None, None), ((0, "part"), "*", (1, "part"))),
        ))
        self.assertEqual(new.form[2:], ("sum", "<", ">"))
        self.assertTrue(writer.using(model="mul", name="add") == new)
        self.assertEqual(writer.rules, moding_writer().rules)

    def test_rules_with_looks(self):
        new = looking_writer().using("add", "mul")
        muls = [rule for rule in looking_writer().rules if rule[1] == "mul"]
        expected = [looking_writer().rules[0]]
        for rule in muls:
            expected += [rule, ("top", "add", rule[2], rule[3])]
        self.assertEqual(new.rules, tuple(expected))
        new = looking_writer().using("mul", "add")
        self.assertEqual(new.rules[1:], (looking_writer().rules[1], ("top", "mul") + looking_writer().rules[1][2:]))

    def test_both_the_same(self):
        for name in ("one", "add", "mul"):
            writer = moding_writer()
            self.assertIs(writer.using(name, name), writer)
            self.assertTrue(writer == moding_writer())

    def test_no_constructors(self):
        for value in no_names() + ["num", "on", ("one",)]:
            for model in ("one", "nope", 1, value):
                with self.assertRaises(UnknownConstructor) as caught:
                    moding_writer().using(value, model)
                self.assertIs(caught.exception.value, value)
            with self.assertRaises(UnknownConstructor) as caught:
                moding_writer().using("add", value)
            self.assertIs(caught.exception.value, value)

    def test_models_of_another_kind_or_with_other_fields(self):
        constructors = (
            ("a", "k", ()), ("b", "k", ("k",)), ("c", "k", ("j",)), ("d", "j", ()), ("e", "j", ("k",)), ("f", "k", ("k",)),
        )
        writer = Writer(
            Schema(("k", "j"), constructors),
            tuple(("m", name, (None,) * len(fields), (name,)) for name, _, fields in constructors), "m",
        )
        for one, other in itertools.permutations(constructors, 2):
            if one[1:] == other[1:]:
                self.assertEqual({one[0], other[0]}, {"b", "f"})
                new = writer.using(one[0], other[0])
                self.assertEqual(len(new.rules), 6)
                self.assertEqual(new.written(Tree.of_rows(new.schema, (("a", ()), (one[0], (0,)))), "m"), other[0])
            else:
                with self.assertRaises(UnknownConstructor) as caught:
                    writer.using(one[0], other[0])
                self.assertEqual(caught.exception.value, other[0])

    def test_too_many_rules(self):
        looks = (("m", "mul", (("one",), None), ("x",)),)
        writer = Writer(sums_schema(), looks * 18 + RULES, "m")
        self.assertEqual(len(writer.using("add", "mul").rules), 39)
        writer = Writer(sums_schema(), looks * 19 + RULES, "m")
        with self.assertRaises(InvalidRules) as caught:
            writer.using("add", "mul")
        self.assertIs(caught.exception.index, None)

    def test_a_mode_that_is_left_out(self):
        rules = (("m", "one", (), ("1",)), ("n", "add", (None, None), ()), ("k", "mul", (None, None), ((0, "n"),)), ADD, MUL)
        writer = Writer(sums_schema(), rules, "m")
        with self.assertRaises(InvalidRules) as caught:
            writer.using("add", "mul")
        self.assertEqual(caught.exception.index, 1)

    def test_writers_by_chance(self):
        source = random.Random(8)
        found = 0
        for _ in range(200):
            schema = chance.schema(source)
            writer = chance.writer(source, schema)
            for one, other in itertools.permutations(schema.constructors, 2):
                if one[1:] == other[1:] and len(writer.rules) < 20:
                    found += 1
                    self.check_top(writer, one[0], other[0])
        self.assertGreater(found, 20)

    def check_top(self, writer, name, model):
        """A tree is written in each mode as the one with the model on top, if no field has either on top."""
        new = writer.using(name, model)
        kind = writer.schema.constructor(name)[1]
        for one in plain.all_trees(writer.schema, kind, 6)[:40]:
            if one[0] == name and name not in str(one[1]) and model not in str(one[1]):
                for mode in writer.modes:
                    if any(rule[:2] == (mode, model) and set(rule[2]) <= {None} for rule in writer.rules):
                        text = plain.write(new.rules, one, mode)
                        self.assertEqual(text, plain.write(writer.rules, (model, one[1]), mode))


class Exchanged(unittest.TestCase):
    def test_sums(self):
        writer = "<" + looking_writer() + ">"
        new = writer.exchanged("mul", 0, 1)
        self.assertEqual(new.rules[:2], writer.rules[:2])
        self.assertEqual(new.rules[2:], (
            ("top", "mul", (("add",), ("add",)), ("(", (1, "top"), ")*(", (0, "top"), ")")),
            ("top", "mul", (None, ("add",)), ("(", (1, "top"), ")*", (0, "top"))),
            ("top", "mul", (("add",), None), ((1, "top"), "*(", (0, "top"), ")")),
            ("top", "mul", (None, None), ((1, "top"), "*", (0, "top"))),
        ))
        self.assertEqual(new.form[2:], ("top", "<", ">"))
        self.assertTrue(writer.exchanged("mul", 1, 0) == new)
        self.assertTrue(writer.exchanged(two=1, one=0, name="mul") == new)
        self.assertTrue(new.exchanged("mul", 0, 1) == writer)
        for number in (0, 1):
            self.assertTrue(writer.exchanged("mul", number, number) == writer)
        self.assertEqual(new(Tree.read(sums_schema(), "one; add 0 0; mul 0 1")), "<(1+1)*1>")

    def test_three_fields(self):
        schema = Schema(("a",), (("x", "a", ()), ("y", "a", ()), ("t", "a", ("a", "a", "a"))))
        rules = (
            ("m", "t", (("x",), None, ("y",)), ((2, "m"), "-", (0, "n"), (1, "m"))), ("m", "x", (), ()), ("m", "y", (), ()),
            ("n", "t", (None, ("t",), None), ((1, "m"),)), ("m", "t", (None,) * 3, ((0, "m"),)), ("n", "x", (), ()),
            ("n", "y", (), ()), ("n", "t", (None,) * 3, ()),
        )
        writer = Writer(schema, rules, "m")
        new = writer.exchanged("t", 0, 2)
        self.assertEqual(new.rules[0], ("m", "t", (("y",), None, ("x",)), ((0, "m"), "-", (2, "n"), (1, "m"))))
        self.assertEqual(new.rules[3:5], (rules[3], ("m", "t", (None,) * 3, ((2, "m"),))))
        new = writer.exchanged("t", 1, 2)
        self.assertEqual(new.rules[0], ("m", "t", (("x",), ("y",), None), ((1, "m"), "-", (0, "n"), (2, "m"))))
        self.assertEqual(new.rules[3], ("n", "t", (None, None, ("t",)), ((2, "m"),)))

    def test_no_constructor(self):
        for value in no_names() + ["num", "on", ("one",)]:
            with self.assertRaises(UnknownConstructor) as caught:
                moding_writer().exchanged(value, 5, 5)
            self.assertIs(caught.exception.value, value)

    def refuse(self, value, writer, name, one, two):
        with self.assertRaises(InvalidNumber) as caught:
            writer.exchanged(name, one, two)
        self.assertIs(caught.exception.value, value)

    def test_no_fields(self):
        for value in no_numbers() + [-1, 2, 3, 10 ** 39, -10 ** 39, True, False]:
            self.refuse(value, moding_writer(), "add", value, 0)
            self.refuse(value, moding_writer(), "add", value, "other")
            self.refuse(value, moding_writer(), "add", 0, value)
        self.refuse(0, moding_writer(), "one", 0, 0)

    def test_fields_of_another_kind(self):
        schema = Schema(*MOST)
        rules = tuple(("m", name, (None,) * len(fields), ()) for name, _, fields in schema.constructors)
        writer = Writer(schema, rules, "m")
        self.refuse(1, writer, "a2345678", 0, 1)
        self.refuse(2, writer, "a2345678", 0, 2)
        self.refuse(0, writer, "a2345678", 2, 0)
        self.refuse(3, writer, "a2345678", 0, 3)
        self.assertTrue(writer.exchanged("a2345678", 2, 2) == writer)
        bought = Schema(*BOUGHT)
        rules = tuple(("m", name, (None,) * len(fields), ()) for name, _, fields in bought.constructors)
        self.refuse(1, Writer(bought, rules, "m"), "put", 0, 1)

    def test_what_is_written(self):
        for writer in (looking_writer(), moding_writer(), full_writer()):
            new = writer.exchanged("add", 0, 1).exchanged("mul", 0, 1)
            for one in plain.all_trees(Schema(*SUMS), "num", 7):
                self.assertEqual(plain.whole(new, one), plain.whole(writer, turned(one)))


def turned(tree):
    return (tree[0], tuple(turned(field) for field in reversed(tree[1])))


if __name__ == "__main__":
    unittest.main()
