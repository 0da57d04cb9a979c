import itertools
import unittest

from fivetrees.errors import (
    InvalidRules, InvalidStart, InvalidString, InvalidText, MissingRule, NotASchema,
)
from fivetrees.samples import full_writer, looking_writer, moding_writer
from fivetrees.schemas import Schema
from fivetrees.trees import Tree
from fivetrees.writers import Writer
from tests.examples import BOUGHT, LEAST, SUMS
from tests.values import Alike, Broken, no_names, no_numbers, no_signs, no_strings, no_tuples

ONE = ("m", "one", (), ("1",))
ADD = ("m", "add", (None, None), ((0, "m"), "+", (1, "m")))
MUL = ("m", "mul", (None, None), ((0, "m"), "*", (1, "m")))
RULES = (ONE, ADD, MUL)
SIGNS = "".join(map(chr, range(32, 127))) + "\n"


def in_mode(mode, rules=RULES):
    """The same rules in another mode."""
    def piece(one):
        return one if isinstance(one, str) else (one[0], mode)
    return tuple((mode, name, looks, tuple(map(piece, pieces))) for _, name, looks, pieces in rules)


class Right(unittest.TestCase):
    def setUp(self):
        self.sums = Schema(*SUMS)

    def test_properties(self):
        writer = Writer(self.sums, RULES, "m", before="<", after=">")
        self.assertEqual((writer.rules, writer.start, writer.modes), (RULES, "m", ("m",)))
        self.assertEqual((writer.before, writer.after), ("<", ">"))
        self.assertTrue(writer.schema == self.sums)
        self.assertEqual(writer.form, (str(self.sums), RULES, "m", "<", ">"))
        self.assertEqual(repr(writer), "Writer(1 modes, 3 rules)")
        self.assertIs(bool(writer), True)

    def test_without_before_and_after(self):
        writer = Writer(self.sums, RULES, "m")
        self.assertEqual((writer.before, writer.after), ("", ""))
        self.assertEqual(writer.form, (str(self.sums), RULES, "m", "", ""))

    def test_by_name(self):
        writer = Writer(after=">", before="<", start="m", rules=RULES, schema=self.sums)
        self.assertTrue(writer == Writer(self.sums, RULES, "m", before="<", after=">"))
        self.assertRaises(TypeError, Writer, self.sums, RULES, "m", "<", ">")

    def test_modes_in_their_order(self):
        rules = in_mode("z") + in_mode("a") + in_mode("q")
        for first in itertools.permutations(range(9), 3):
            order = [*first, *[k for k in range(9) if k not in first]]
            found = Writer(self.sums, tuple(rules[k] for k in order), "q").modes
            self.assertEqual(found, tuple(dict.fromkeys(rules[k][0] for k in order)))

    def test_repr(self):
        self.assertEqual(repr(looking_writer()), "Writer(1 modes, 6 rules)")
        self.assertEqual(repr(moding_writer()), "Writer(2 modes, 6 rules)")
        self.assertEqual(repr(Writer(Schema(*LEAST), (("m", "b", (), ()),), "m")), "Writer(1 modes, 1 rules)")

    def test_forty_rules(self):
        looks = (("one",), None)
        rules = tuple(("m", "add", looks, (str(k),)) for k in range(37)) + RULES
        self.assertEqual(len(Writer(self.sums, rules, "m").rules), 40)
        self.refuse_rules(None, rules + (ONE,))

    def refuse_rules(self, index, rules):
        with self.assertRaises(InvalidRules) as caught:
            Writer(self.sums, rules, "m")
        self.assertEqual(caught.exception.index, index)

    def test_three_modes(self):
        rules = in_mode("a") + in_mode("b") + in_mode("c")
        for mode in "abc":
            self.assertEqual(Writer(self.sums, rules, mode).modes, ("a", "b", "c"))

    def test_nine_pieces(self):
        for pieces in (
            ("1",) * 9, ("1",) * 7 + ((1, "m"), (0, "m")), ((1, "m"),) + ("1",) * 7 + ((0, "m"),), ((0, "m"),), (),
            ((1, "m"), (0, "m")), (SIGNS[:20],) * 9, (SIGNS[20:40], SIGNS[40:60], SIGNS[60:80], SIGNS[80:], "\n" * 20),
        ):
            rules = (ONE, MUL, ("m", "add", (None, None), pieces))
            self.assertEqual(Writer(self.sums, rules, "m").rules, rules)

    def test_strings_of_twenty_signs(self):
        for string in ("", "a", " ", "~", "\n", SIGNS[:20], SIGNS[-20:]):
            for other in ("", "~" * 20):
                writer = Writer(self.sums, RULES, "m", before=string, after=other)
                self.assertEqual((writer.before, writer.after), (string, other))
                self.assertEqual((writer.form[3], writer.form[4]), (string, other))

    def test_looks(self):
        names = ("one", "add", "mul")
        found = [None] + [row for many in (1, 2, 3) for row in itertools.permutations(names, many)]
        for looks in itertools.product(found, repeat=2):
            rules = (("m", "add", looks, ((1, "m"),)),) + RULES
            self.assertEqual(Writer(self.sums, rules, "m").rules, rules)

    def test_rules_that_are_not_needed(self):
        rules = RULES + (("n", "one", (), ()), ("n", "add", (("one",), None), ((0, "n"), (1, "m"))))
        self.assertEqual(Writer(self.sums, rules, "m").modes, ("m", "n"))
        rules = RULES + RULES
        self.assertEqual(Writer(self.sums, rules, "m").rules, rules)

    def test_modes_and_constructors_may_have_one_name(self):
        rules = tuple(("one", name, looks, ("x",)) for _, name, looks, _ in RULES)
        self.assertEqual(Writer(self.sums, rules, "one").modes, ("one",))

    def test_the_methods_stand_in_the_class(self):
        listed = ["__init__", "schema", "start", "rules", "before", "after", "modes", "form", "of_form", "__call__"]
        listed += ["written", "__add__", "__radd__", "spelled", "with_rule", "without_rule", "using", "exchanged"]
        for name in listed + ["__eq__", "__repr__"]:
            self.assertIn(name, vars(Writer))
        self.assertIsInstance(vars(Writer)["of_form"], staticmethod)
        self.assertEqual(Writer.__module__, "fivetrees.writers")

    def test_properties_are_not_assigned(self):
        writer = full_writer()
        for name in ("schema", "start", "rules", "before", "after", "modes", "form"):
            with self.assertRaises(AttributeError):
                setattr(writer, name, ())
        self.assertTrue(writer == full_writer())


class Equality(unittest.TestCase):
    def check(self, one, other, equal):
        self.assertIs(one == other, equal)
        self.assertIs(one != other, not equal)
        self.assertIs(other == one, equal)
        self.assertIs(other != one, not equal)

    def test_writers(self):
        sums = Schema(*SUMS)
        makers = [
            looking_writer, moding_writer, full_writer,
            lambda: Writer(sums, RULES, "m"),
            lambda: Writer(sums, RULES, "m", before="a"),
            lambda: Writer(sums, RULES, "m", after="a"),
            lambda: Writer(sums, RULES[::-1], "m"),
            lambda: Writer(sums, RULES + (ONE,), "m"),
            lambda: Writer(sums, RULES + in_mode("n"), "m"),
            lambda: Writer(sums, RULES + in_mode("n"), "n"),
            lambda: Writer(sums, in_mode("n"), "n"),
            lambda: Writer(Schema(SUMS[0], SUMS[1][::-1]), RULES, "m"),
            lambda: Writer(Schema(*SUMS), (ONE, ADD, ("m", "mul", (None, None), ("*",))), "m"),
        ]
        for k, one in enumerate(makers):
            for m, other in enumerate(makers):
                self.check(one(), other(), k == m)

    def test_other_values(self):
        writer = full_writer()
        for value in no_strings() + [writer.form, writer.rules, writer.schema, Writer, repr(writer)]:
            if not isinstance(value, (Alike, Broken)):
                self.check(writer, value, False)
        for value in (Alike(), Broken()):
            self.assertIs(writer == value, False)
            self.assertIs(writer != value, True)


class RefusedRules(unittest.TestCase):
    def setUp(self):
        self.sums = Schema(*SUMS)

    def refuse(self, index, rules, start="m", schema=None):
        for before in ("", 1):
            with self.assertRaises(InvalidRules) as caught:
                Writer(schema or self.sums, rules, start, before=before)
            self.assertIs(type(caught.exception.index), type(index))
            self.assertEqual(caught.exception.index, index)

    def refuse_rule(self, rule):
        """The rule is wrong by itself, wherever it stands."""
        self.refuse(0, (rule,))
        self.refuse(0, (rule, rule) + RULES)
        self.refuse(3, RULES + (rule,), start=5)
        self.refuse(1, (ONE, rule, ADD, MUL))
        self.refuse(39, RULES * 13 + (rule,))

    def test_no_schema(self):
        for value in no_strings() + [SUMS, str(self.sums)]:
            for rules in (RULES, (), 1):
                with self.assertRaises(NotASchema) as caught:
                    Writer(value, rules, 1)
                self.assertIs(caught.exception.value, value)

    def test_no_tuple(self):
        for value in no_tuples() + [list(RULES), {ONE: ONE}]:
            self.refuse(None, value)

    def test_how_many(self):
        self.refuse(None, ())
        self.refuse(None, (1,) * 41)
        self.refuse(None, RULES * 13 + (ONE, ADD))
        self.refuse(None, (ONE,) * 5000)

    def test_no_rules(self):
        for value in no_tuples() + [(), ("m",), ONE[:3], ONE + ((),), list(ONE), (ONE,)]:
            self.refuse_rule(value)

    def test_modes(self):
        for value in no_names():
            self.refuse_rule((value, "one", (), ("1",)))

    def test_constructors(self):
        for value in no_names() + ["num", "on", "ones", ("one",)]:
            self.refuse_rule(("m", value, (), ("1",)))

    def test_looks(self):
        for value in no_tuples():
            self.refuse_rule(("m", "one", value, ()))
            self.refuse_rule(("m", "add", value, ()))
        for looks in (
            (None,), (None,) * 3, (), [None, None], ((), None), (None, ()), (["one"], None), (None, "one"),
            (("one", "one"), None), (None, ("add", "one", "add")), (("num",), None), (("one", "on"), None),
            (("one", None), None), ((("one",),), None), ((True,), None), (None, 0), (None, True),
        ):
            self.refuse_rule(("m", "add", looks, ()))
        self.refuse_rule(("m", "one", (None,), ()))
        for value in no_names():
            self.refuse_rule(("m", "add", ((value,), None), ()))
            self.refuse_rule(("m", "add", (None, ("one", value)), ()))

    def test_looks_of_another_kind(self):
        bought = Schema(*BOUGHT)
        good = (("m", "nil", (), ()), ("m", "put", (None, None), ()), ("m", "dot", (), ()))
        for looks, right in (
            ((("dot",), ("nil",)), True), ((("nil",), None), False), ((None, ("dot",)), False),
            ((("dot",), ("nil", "put")), True), ((None, ("put", "dot")), False),
        ):
            rules = good + (("m", "put", looks, ()),)
            if right:
                self.assertEqual(Writer(bought, rules, "m").rules, rules)
            else:
                self.refuse(3, rules, schema=bought)

    def test_pieces(self):
        for value in no_tuples() + [[], ["1"], {"1": 1}]:
            self.refuse_rule(("m", "one", (), value))
            self.refuse_rule(("m", "add", (None, None), value))
        self.refuse_rule(("m", "one", (), ("1",) * 10))
        self.refuse_rule(("m", "add", (None, None), ((0, "m"), (1, "m")) + ("1",) * 8))

    def refuse_piece(self, piece):
        self.refuse_rule(("m", "add", (None, None), (piece,)))
        self.refuse_rule(("m", "add", (None, None), ("1", (0, "m"), piece)))

    def test_strings(self):
        for value in no_signs() + ["", "a" * 21, "a" * 5000, "a" * 20 + "\n"]:
            if not isinstance(value, tuple):
                self.refuse_piece(value)
        for value in no_signs() + ["", "a" * 21]:
            self.refuse_rule(("m", "one", (), (value,)))
            self.refuse_rule(("m", "one", (), ("1", value)))

    def test_pairs(self):
        for value in no_numbers() + [-1, 2, 3, 10 ** 39, -10 ** 39, True, False]:
            self.refuse_piece((value, "m"))
        for value in no_names():
            self.refuse_piece((1, value))
        for value in [(), (1,), (1, "m", "m"), ("m", 1), [1, "m"], ((1, "m"),), (1, ("m",))]:
            self.refuse_piece(value)
        self.refuse_rule(("m", "one", (), ((0, "m"),)))

    def test_fields_that_stand_twice(self):
        for pieces in (
            ((0, "m"), (0, "m")), ((0, "m"), "1", (0, "n")), ((1, "m"), (0, "m"), (1, "m")),
            ((0, "m"), (1, "m"), "+", (0, "m")),
        ):
            self.refuse_rule(("m", "add", (None, None), pieces))

    def test_a_fourth_mode(self):
        three = in_mode("a") + in_mode("b") + in_mode("c")
        four = ("d", "one", (), ("1",))
        self.refuse(9, three + (four,), start="a")
        self.refuse(9, three + (four, 5), start="a")
        self.refuse(9, three + (four,) + three, start="a")
        self.refuse(3, (four, three[0], three[3], three[6]) + three, start="a")
        self.refuse(4, three[:4] + (5, four) + three, start="a")
        self.refuse(11, three + (three[0], three[4], four), start="a")

    def test_modes_that_no_rule_has(self):
        self.refuse(1, (ONE, ("m", "add", (None, None), ((0, "m"), (1, "n"))), MUL))
        self.refuse(1, (ONE, ("m", "add", (None, None), ((0, "n"), (1, "k"))), ("m", "mul", (None, None), ((0, "n"),))))
        self.refuse(0, (("n", "add", (None, None), ((0, "k"),)),) + RULES)
        self.refuse(3, RULES + (("m", "add", (None, None), ((0, "one"),)),))
        # A mode may come from a rule that stands behind.
        rules = (ONE, ("m", "add", (None, None), ((0, "n"),)), MUL) + in_mode("n")
        self.assertEqual(Writer(self.sums, rules, "m").rules, rules)

    def test_modes_that_no_rule_has_come_last(self):
        wrong = ("m", "add", (None, None), ((0, "n"),))
        self.refuse(3, (ONE, wrong, MUL, 5))
        self.refuse(4, (ONE, wrong, ADD, MUL, ("m", "one", (), ((0, "m"),))))
        three = in_mode("a") + in_mode("b") + in_mode("m")
        self.refuse(10, (wrong, *three, ("c", "one", (), ())))
        self.refuse(0, (wrong, *three))


class RefusedStarts(unittest.TestCase):
    def setUp(self):
        self.sums = Schema(*SUMS)

    def test_no_mode(self):
        for value in no_names() + ["n", "one", "num", "mm", ("m",)]:
            for rules in (RULES, (ADD,)):
                with self.assertRaises(InvalidStart) as caught:
                    Writer(self.sums, rules, value, before=1)
                self.assertIs(caught.exception.value, value)

    def missing(self, rules, start, mode, name, schema=None):
        for before in ("", 1):
            with self.assertRaises(MissingRule) as caught:
                Writer(schema or self.sums, rules, start, before=before)
            self.assertEqual((caught.exception.mode, caught.exception.name), (mode, name))

    def test_each_constructor(self):
        for k, rule in enumerate(RULES):
            rules = RULES[:k] + RULES[k + 1:]
            self.missing(rules, "m", "m", rule[1])
        self.missing((MUL,), "m", "m", "one")
        self.missing((ONE,), "m", "m", "add")
        self.missing((MUL, ONE), "m", "m", "add")

    def test_only_rules_with_looks(self):
        for looks in ((("one", "add", "mul"), None), (None, ("one",)), (("one",), ("one", "mul"))):
            self.missing((ONE, ("m", "add", looks, ()), MUL), "m", "m", "add")
            self.missing((ONE, ("m", "add", looks, ()), ("m", "mul", looks, ())), "m", "m", "add")

    def test_the_first_mode(self):
        other = ("n", "one", (), ())
        into = ("m", "mul", (None, None), ((0, "n"),))
        self.missing((ONE, ADD, into, other), "m", "n", "add")
        self.missing((other, ONE, into), "m", "n", "add")
        self.missing((ONE, into, other), "m", "m", "add")
        self.missing((into, other), "m", "m", "one")
        # The first mode in the rules comes first, whatever the start is.
        self.missing((other, ONE, ADD, into), "m", "n", "add")
        three = ("k", "one", (), ())
        chain = (("k", "mul", (None, None), ((1, "m"),)), three, ONE, into, other)
        self.missing(chain, "n", "n", "add")
        self.missing(chain, "m", "m", "add")
        self.missing(chain, "k", "k", "add")

    def test_pairs_that_are_not_needed(self):
        bought = Schema(*BOUGHT)
        rules = (
            ("m", "nil", (), ("[]",)), ("m", "put", (None, None), ((0, "n"), (1, "m"))), ("n", "dot", (), (".",)),
        )
        writer = Writer(bought, rules, "m")
        self.assertEqual(writer.modes, ("m", "n"))
        self.missing(rules, "n", "n", "nil", bought)
        self.missing(rules[:1] + (("m", "put", (None, None), ((0, "m"), (1, "n"))),) + rules[2:], "m", "m", "dot", bought)
        self.missing(rules[:1] + (("m", "put", (None, None), ((0, "n"), (1, "n"))),) + rules[2:], "m", "n", "nil", bought)

    def test_rules_with_looks_need_too(self):
        rules = RULES + (("n", "one", (), ()),)
        self.assertEqual(len(Writer(self.sums, rules, "m").rules), 4)
        self.missing((("m", "add", (("mul",), None), ((0, "n"),)),) + rules, "m", "n", "add")
        # Also rules that stand behind one without looks, and so never fit first.
        self.missing(rules + (("m", "add", (("mul",), None), ((0, "n"),)),), "m", "n", "add")

    def test_the_rules_of_a_kind_that_is_not_reached(self):
        schema = Schema(("a", "b"), (("leaf", "a", ()), ("bud", "b", ("a",)), ("tip", "b", ())))
        rules = (("m", "leaf", (), ("x",)), ("m", "bud", (None,), ((0, "n"),)), ("n", "tip", (), ()))
        self.assertEqual(Writer(schema, rules, "m").modes, ("m", "n"))
        self.missing(rules, "n", "n", "leaf", schema)


class RefusedStrings(unittest.TestCase):
    def test_before_and_after(self):
        sums = Schema(*SUMS)
        for value in no_signs() + ["a" * 21, "a" * 5000, "\n" * 21, ("a",)]:
            for given in ({"before": value}, {"before": value, "after": 1}, {"after": value}):
                with self.assertRaises(InvalidString) as caught:
                    Writer(sums, RULES, "m", **given)
                self.assertIs(caught.exception.value, value)

    def test_what_is_passed_stays(self):
        sums = Schema(*SUMS)
        wrong = ["m", "one", (), ["1"]]
        self.assertRaises(InvalidRules, Writer, sums, (ADD, wrong), "m")
        self.assertEqual(wrong, ["m", "one", (), ["1"]])
        self.assertTrue(sums == Schema(*SUMS))


class OfForm(unittest.TestCase):
    def setUp(self):
        self.sums = Schema(*SUMS)

    def refuse(self, value):
        for call in (lambda: Writer.of_form(value), lambda: Writer.of_form(value=value)):
            with self.assertRaises(InvalidText) as caught:
                call()
            self.assertIs(caught.exception.value, value)

    def test_each_form(self):
        for writer in (
            looking_writer(), moding_writer(), full_writer(), Writer(self.sums, RULES, "m", before="\n", after="~" * 20),
            Writer(Schema(*LEAST), (("m", "b", (), ()),), "m"),
        ):
            again = Writer.of_form(writer.form)
            self.assertTrue(again == writer)
            self.assertEqual(again.form, writer.form)
            self.assertEqual(str(again.schema), str(writer.schema))
            self.assertTrue(Writer.of_form(value=writer.form) == writer)
            self.assertTrue(again.of_form(writer.form) == writer)

    def test_no_form(self):
        form = full_writer().form
        for value in no_tuples() + [(), form[:4], form + ("",), list(form), (form,), full_writer(), self.sums, form[0]]:
            self.refuse(value)

    def test_one_part_wrong(self):
        form = Writer(self.sums, RULES, "m", before="<", after=">").form
        values = no_strings() + [form, self.sums, full_writer()]
        strings = (["", "nope", form[0] + " "], ["", "nope"], ["", "n", "mm"], ["a" * 21, "\t"], ["a" * 21, "\t"])
        for k, more in enumerate(strings):
            for value in values + more:
                self.refuse(form[:k] + (value,) + form[k + 1:])

    def test_each_error(self):
        text = str(self.sums)
        for value in (
            (text + "\n", RULES, "m", "", ""), (text + "\nmake loop num", RULES, "m", "", ""), ("", RULES, "m", "", ""),
            ("kind a\nmake up a a", RULES, "m", "", ""), (text, RULES * 14, "m", "", ""), (text, (), "m", "", ""),
            (text, (ONE, ADD, 5), "m", "", ""), (text, (ONE, ADD), "m", "", ""), (text, RULES, "n", "", ""),
            (text, RULES, "m", "\t", ""), (text, RULES, "m", "", "a" * 21), (text, RULES, "m", "", None),
            (text, (ONE, ADD, ("m", "mul", (None, None), ((0, "n"),))), "m", "", ""), (text, list(RULES), "m", "", ""),
            (text, RULES, "m", True, ""), (self.sums, RULES, "m", "", ""), (SUMS, RULES, "m", "", ""),
        ):
            self.refuse(value)

    def test_a_tree_is_no_form(self):
        self.refuse(Tree(self.sums, "one"))


if __name__ == "__main__":
    unittest.main()
