import random
import unittest
import unittest.mock
from fractions import Fraction

from fivetrees.errors import (
    InvalidTree, NotATree, NotAWriter, OtherSchema, TooLong, TooManyJoins,
)
from fivetrees.keeping import Keeping
from fivetrees.samples import full_writer, looking_writer, moding_writer, sums_schema
from fivetrees.schemas import Schema
from fivetrees.spans import Span
from fivetrees.trees import Tree, compare, trees
from fivetrees.writers import Writer
from tests import chance, plain
from tests.examples import BOUGHT, LEAST, SUMS
from tests.limits_of_joins import (
    great_first_tree, one_more, one_more_beside_itself, two_thousand, two_thousand_empty,
)
from tests.test_tree_paths import great
from tests.test_trees import CHAIN, chain
from tests.values import no_strings

SAMPLES = (looking_writer, moding_writer, full_writer)


class Kept(unittest.TestCase):
    def check(self, writer, other, most):
        """The kept trees are those of an own look at all trees up to this size, as far as it goes."""
        keeping = Keeping(writer, other)
        found = plain.kept(writer, other, plain.root_states(writer, other), most)
        self.assertLessEqual(set(found), set(keeping.states))
        for state in keeping.states:
            kept = keeping.kept(state)
            self.assertTrue(1 <= len(kept) <= 5)
            # A state that only great trees lead to is not found by the own look.
            if state in found:
                self.assertEqual([plain.plain(tree) for tree in kept if tree.size <= most], found[state])
            self.assertEqual({tree.name for tree in kept}, {state[0]})
            for one, later in zip(kept, kept[1:]):
                self.assertEqual(compare(one, later), -1)
        return keeping

    def test_the_samples(self):
        for make in SAMPLES:
            for other in SAMPLES:
                keeping = self.check(make(), other(), 7)
                self.assertEqual(keeping.base, 6)

    def test_writers_by_chance(self):
        source = random.Random(11)
        found = 0
        for _ in range(60):
            schema = chance.schema(source)
            writer = chance.writer(source, schema)
            other = chance.writer(source, schema, "bc") if source.random() < 0.8 else writer
            try:
                keeping = Keeping(writer, other)
            except TooManyJoins:
                continue
            most = 6 if len(schema) < 4 else 5
            if max(len(plain.all_trees(schema, kind, most)) for kind in schema.kinds) < 500:
                found += 1
                self.check(writer, other, most)
                self.check_states(keeping)
        self.assertGreater(found, 20)

    def check_states(self, keeping):
        """The fields of kept trees are kept in their states, and the states are in their order."""
        writer, other = keeping.writer, keeping.other
        for state in keeping.states:
            for tree in keeping.kept(state):
                one = plain.plain(tree)
                ones, others = (
                    plain.field_modes(rules, one, mode)
                    for rules, mode in ((writer.rules, state[1]), (other.rules, state[2]))
                )
                for field, *modes in zip(tree.fields, ones, others):
                    self.assertIn(field, keeping.kept((field.name, *modes)))
        modes, others = [*writer.modes, None], [*other.modes, None]
        keys = [(writer.schema.place(name), modes.index(mode), others.index(more)) for name, mode, more in keeping.states]
        self.assertEqual(keys, sorted(set(keys)))

    def test_five_trees_in_a_state(self):
        schema = Schema(*CHAIN)
        writer = Writer(schema, (("m", "end", (), ("a",)), ("m", "up", (None,), ("ab", (0, "m"))), ("m", "two", (None,) * 2, ())), "m")
        other = Writer(
            schema, (("m", "end", (), ("b",)), ("m", "up", (None,), ("aab", (0, "m"), "a")), ("m", "two", (None,) * 2, ())), "m",
        )
        keeping = self.check(writer, other, 7)
        self.assertEqual([len(keeping.kept((name, "m", "m"))) for name in ("end", "up", "two")], [1, 5, 1])

    def test_one_tree_in_a_state(self):
        schema = Schema(*CHAIN)
        writer = Writer(schema, tuple(("m", name, (None,) * len(fields), ("x",)) for name, _, fields in CHAIN[1]), "m")
        keeping = self.check(writer, writer, 6)
        self.assertEqual(len(keeping), 6)
        self.assertEqual([len(keeping.kept(state)) for state in keeping.states], [1] * 6)


class Told(unittest.TestCase):
    def test_the_properties(self):
        looking, moding = looking_writer(), moding_writer()
        keeping = Keeping(other=moding, writer=looking)
        self.assertTrue(keeping.writer == looking)
        self.assertTrue(keeping.other == moding)
        self.assertEqual(keeping.states, tuple((name, "top", mode) for name in ("one", "add", "mul") for mode in ("sum", "part")))
        self.assertIs(bool(keeping), True)
        self.assertTrue(keeping == keeping)
        self.assertTrue(keeping != Keeping(looking, moding))
        for name in ("writer", "other", "base", "states"):
            with self.assertRaises(AttributeError):
                setattr(keeping, name, 1)

    def test_the_methods_stand_in_the_class(self):
        for name in ["__init__", "writer", "other", "base", "states", "kept", "row", "__len__"]:
            self.assertIn(name, vars(Keeping))
        self.assertEqual(Keeping.__module__, "fivetrees.keeping")

    def test_len(self):
        for make in SAMPLES:
            for other in SAMPLES:
                keeping = Keeping(make(), other())
                self.assertEqual(len(keeping), sum(len(keeping.kept(state)) for state in keeping.states))
                self.assertIs(type(keeping.kept(state=keeping.states[0])), tuple)

    def test_states_with_none(self):
        rules = (
            ("b", "one", (), ()), ("a", "one", (), ()), ("b", "add", (None, None), ((0, "a"),)), ("b", "mul", (None, None), ()),
            ("a", "add", (None, None), ("x", (1, "b"))), ("a", "mul", (("add",), None), ((0, "b"), (1, "a"))),
            ("a", "mul", (None, None), ()),
        )
        writer, other = Writer(sums_schema(), rules, "b"), full_writer()
        keeping = Keeping(writer, other)
        pairs = [("b", "all"), ("a", "all"), (None, "all")]
        self.assertEqual(keeping.states, tuple((name, *pair) for name in ("one", "add", "mul") for pair in pairs))
        keeping = Keeping(other, writer)
        pairs = [("all", "b"), ("all", "a"), ("all", None)]
        self.assertEqual(keeping.states, tuple((name, *pair) for name in ("one", "add", "mul") for pair in pairs))
        keeping = Keeping(writer, writer)
        pairs = [("b", "b"), ("a", "a"), (None, None)]
        self.assertEqual(keeping.states, tuple((name, *pair) for name in ("one", "add", "mul") for pair in pairs))

    def test_modes_in_the_orders_of_the_writers(self):
        first = Writer(sums_schema(), moding_writer().rules, "sum")
        turned = Writer(sums_schema(), moding_writer().rules[::-1], "part")
        self.assertEqual(turned.modes, ("part", "sum"))
        pairs = [state[1:] for state in Keeping(first, turned).states if state[0] == "one"]
        self.assertEqual(pairs, [("sum", "part"), ("sum", "sum"), ("part", "part")])
        pairs = [state[1:] for state in Keeping(turned, first).states if state[0] == "one"]
        self.assertEqual(pairs, [("part", "sum"), ("part", "part"), ("sum", "sum")])

    def test_states_of_the_kinds_that_are_reached(self):
        schema = Schema(("a", "b"), (("leaf", "a", ()), ("bud", "b", ("a",)), ("tip", "b", ())))
        writer = Writer(schema, (("m", "leaf", (), ()), ("m", "bud", (None,), ())), "m")
        self.assertEqual(Keeping(writer, writer).states, (("leaf", "m", "m"),))

    def test_base(self):
        schema = Schema(*LEAST)

        def writer(*pieces, **around):
            return Writer(schema, (("m", "b", (), pieces),), "m", **around)

        for one, other, base in (
            (writer(), writer(), 2), (writer("a"), writer(), 2), (writer("aaa"), writer("a"), 2), (writer("a"), writer("b"), 3),
            (writer(before="x"), writer(after="y"), 3), (writer("ab", before="cd"), writer("ef", after="gh"), 9),
            (writer("ab", "ba", before="ba"), writer("b", after="\n"), 4), (writer(), writer(after="zyx"), 4),
        ):
            self.assertEqual((Keeping(one, other).base, Keeping(other, one).base), (base, base))
        # Signs of rules that never fit count, too.
        more = Writer(schema, (("m", "b", (), ("a",)), ("m", "b", (), ("bc",)), ("n", "b", (), ("d",))), "m")
        self.assertEqual(Keeping(more, more).base, 5)


class Rows(unittest.TestCase):
    def test_rows(self):
        for make in SAMPLES:
            for more in SAMPLES:
                writer, other = "<" + make(), more() + "~\n"
                keeping = Keeping(writer, other)
                self.assertEqual(keeping.base, len(plain.digits(writer, other)) + 1)
                for tree in trees(sums_schema(), "num", most=7):
                    for state in keeping.states:
                        if state[0] == tree.name:
                            row = plain.five(writer, other, plain.plain(tree), state)
                            self.assertEqual(keeping.row(tree, state), row)
                            self.assertEqual(keeping.row(state=state, tree=tree), row)

    def test_a_row_with_none(self):
        writer = Writer(
            sums_schema(), (("m", "one", (), ("b",)), ("m", "add", (None, None), ("c", (1, "m"))), ("m", "mul", (None, None), ())), "m",
        )
        keeping = Keeping(writer, writer)
        tree = Tree.read(sums_schema(), "one; mul 0 0; add 1 0")
        self.assertEqual(keeping.row(tree, ("add", None, None)), (1, 1, 0, 1, 0))
        self.assertEqual(keeping.row(tree, ("add", "m", "m")), (1, 9, 7, 9, 7))
        self.assertEqual(keeping.row(tree[(0,)], ("mul", "m", "m")), (1, 1, 0, 1, 0))
        self.assertEqual([type(number) for number in keeping.row(tree, ("add", "m", "m"))], [int] * 5)

    def test_long_rows(self):
        schema = Schema(*CHAIN)

        def writer(up, end):
            return Writer(schema, (("m", "end", (), end), ("m", "up", (None,), up), ("m", "two", (None, None), ((0, "m"),))), "m")

        tree = chain(schema, 199)
        right = writer(("a" * 20, "b" * 5, (0, "m")), ("c" * 20, "d" * 5))
        short, long = writer(("e", (0, "m")), ()), writer(("a" * 20, "b" * 5, (0, "m")), ("c" * 20, "d" * 6))
        state = ("up", "m", "m")
        row = Keeping(right, short).row(tree, state)
        self.assertEqual(row, plain.five(right, short, plain.plain(tree), state))
        self.assertEqual(row[1], 6 ** 5000)
        longer = writer(("a" * 20, "b" * 20, (0, "m")), ("c",))
        for one, other, found in (
            (long, short, 5001), (short, long, 5001), (right, long, 5001), (long, longer, 5001), (longer, long, 7961),
            (longer, right, 7961),
        ):
            with self.assertRaises(TooLong) as caught:
                Keeping(one, other).row(tree, state)
            self.assertEqual(caught.exception.found, found)

    def test_great_trees(self):
        schema = Schema(*CHAIN)
        rules = (("m", "end", (), ("e",)), ("m", "up", (None,), ()), ("m", "two", (None, None), ("t", (1, "m"))))
        both = rules[:2] + (("m", "two", (None, None), ((0, "m"), (1, "m"))),)
        one, other = Writer(schema, rules, "m"), Writer(schema, both, "m")
        tree = great(schema, 199)
        keeping = Keeping(one, one)
        worth = sum(2 * 3 ** (k + 1) for k in range(199)) + 1
        self.assertEqual(keeping.row(tree, ("two", "m", "m")), (1, 3 ** 200, worth, 3 ** 200, worth))
        self.assertEqual(keeping.row(tree, ("two", None, None)), (1, 1, 0, 1, 0))
        keeping = Keeping(one, other)
        self.assertIn(("two", None, "m"), keeping.states)
        for state in (("two", "m", "m"), ("two", None, "m")):
            with self.assertRaises(TooLong) as caught:
                keeping.row(tree, state)
            self.assertEqual(caught.exception.found, 2 ** 199)
        small = great(schema, 12)
        self.assertEqual(keeping.row(small, ("two", None, "m")), plain.five(one, other, plain.plain(small), ("two", None, "m")))


class Refused(unittest.TestCase):
    def setUp(self):
        self.keeping = Keeping(looking_writer(), moding_writer())
        self.one = Tree(sums_schema(), "one")

    def state(self, value, call):
        with self.assertRaises(InvalidTree) as caught:
            call()
        self.assertIs(caught.exception.value, value)

    def test_no_writers(self):
        for value in no_strings() + [full_writer().form, sums_schema(), self.one]:
            for other in (full_writer(), 1):
                with self.assertRaises(NotAWriter) as caught:
                    Keeping(value, other)
                self.assertIs(caught.exception.value, value)
            with self.assertRaises(NotAWriter) as caught:
                Keeping(full_writer(), value)
            self.assertIs(caught.exception.value, value)

    def test_other_schemas(self):
        other = Writer(Schema(*LEAST), (("m", "b", (), ()),), "m")
        self.assertRaises(OtherSchema, Keeping, full_writer(), other)
        self.assertRaises(OtherSchema, Keeping, other, full_writer())
        self.assertRaises(OtherSchema, Keeping, other, two_thousand()[0])
        self.assertRaises(OtherSchema, Keeping, one_more_beside_itself(), one_more()[0])
        same = Writer(Schema(*SUMS), full_writer().rules, "all")
        self.assertEqual(len(Keeping(same, full_writer()).states), 3)

    def test_states(self):
        values = no_strings() + [
            "one", ("one",), ("one", "top"), ("one", "top", "sum", "sum"), ["one", "top", "sum"], ("two", "top", "sum"),
            ("one", "top", "top"), ("one", "sum", "top"), ("one", "sum", "sum"), ("one", None, None), ("one", "top", None),
            ("one", None, "sum"), (None, "top", "sum"), ("top", "one", "sum"), (("one", "top", "sum"),), ("one", ["top"], "sum"),
            ("one", "top", {}), (1, 2, 3), ("num", "top", "sum"), ("one", True, False), self.one,
        ]
        for value in values:
            self.state(value, lambda: self.keeping.kept(value))
            self.state(value, lambda: self.keeping.kept(state=value))
            self.state(value, lambda: self.keeping.row(self.one, value))
        for value in (("add", "top", "sum"), ("mul", "top", "part")):
            self.assertTrue(self.keeping.kept(value))
            self.state(value, lambda: self.keeping.row(self.one, value))

    def test_no_tree(self):
        for value in no_strings() + ["one", full_writer(), self.one.rows]:
            for state in (("one", "top", "sum"), 1):
                with self.assertRaises(NotATree) as caught:
                    self.keeping.row(value, state)
                self.assertIs(caught.exception.value, value)

    def test_trees_of_other_schemas(self):
        for schema, name in ((Schema(*LEAST), "b"), (Schema(SUMS[0], SUMS[1][:1]), "one"), (Schema(*BOUGHT), "dot")):
            for state in (("one", "top", "sum"), 1):
                self.assertRaises(OtherSchema, self.keeping.row, Tree(schema, name), state)

    def test_too_long_comes_last(self):
        schema = Schema(*CHAIN)
        rules = (("m", "end", (), ("e",)), ("m", "up", (None,), ()), ("m", "two", (None, None), ((0, "m"), (1, "m"))))
        keeping = Keeping(Writer(schema, rules, "m"), Writer(schema, rules, "m"))
        tree = great(schema, 100)
        for value in (("up", "m", "m"), ("two", "m", None), ("up", None, None), 5):
            self.state(value, lambda: keeping.row(tree, value))
        with self.assertRaises(TooLong) as caught:
            keeping.row(tree, ("two", "m", "m"))
        self.assertEqual(caught.exception.found, 2 ** 100)


class Limits(unittest.TestCase):
    def refuse(self, writer, other):
        with self.assertRaises(TooManyJoins) as caught:
            Keeping(writer, other)
        self.assertEqual(caught.exception.limit, 2000)

    def test_two_thousand_joins(self):
        writer, other = two_thousand()
        self.assertEqual(plain.joins(writer, other, plain.root_states(writer, other), 5), (2000, 5))
        keeping = Keeping(writer, other)
        self.assertEqual(max(tree.size for state in keeping.states for tree in keeping.kept(state)), 5)

    def test_two_thousand_joins_with_empty_texts(self):
        writer, other = two_thousand_empty()
        keeping = Keeping(writer, other)
        self.assertEqual((len(keeping), len(keeping.states)), (1 + 15 * 5, 1 + 15 * 5))
        self.assertEqual(plain.joins(writer, other, plain.root_states(writer, other), 7), (2000, 4))
        # With one constructor more for a field there are more.
        schema = Schema(writer.schema.kinds, (("begin", "a", ("b", "b")),) + writer.schema.constructors[1:])
        one, more = (
            Writer(schema, (("c", "begin", (None, None), ((0, "c"),)),) + each.rules[1:], "c") for each in (writer, other)
        )
        self.refuse(one, more)

    def test_one_join_more(self):
        writer, other = one_more()
        self.assertEqual(plain.joins(writer, other, plain.root_states(writer, other), 5), (2001, 5))
        self.refuse(writer, other)
        self.refuse(other, writer)
        writer = one_more_beside_itself()
        self.refuse(writer, writer)

    def test_many_more_joins(self):
        constructors = tuple((f"c{k}", "a", ("a",) * 3) for k in range(5)) + (("leaf", "a", ()),)
        schema = Schema(("a",), constructors)

        def writer(sign):
            fields = ((0, "m"), (1, "m"), (2, "m"))
            rules = tuple(("m", name, (None,) * 3, (name, sign, *fields)) for name, _, _ in constructors[:5])
            return Writer(schema, rules + (("m", "leaf", (), (sign,)),), "m")

        self.refuse(writer("x"), writer("y"))
        self.refuse(writer("x"), writer("x"))

    def test_as_many_trees_as_are_looked_for_in_vain(self):
        # All texts are empty, so one tree is kept in each state, whatever its fields are.
        constructors = tuple((f"c{k}", "a", ("a",) * 3) for k in range(5)) + (("leaf", "a", ()),)
        schema = Schema(("a",), constructors)
        rules = tuple(("m", name, (None,) * len(fields), ()) for name, _, fields in constructors)
        writer = Writer(schema, rules, "m")
        self.refuse(writer, writer)
        fewer = Schema(("a",), constructors[1:])
        writer = Writer(fewer, rules[1:], "m")
        self.assertEqual((len(Keeping(writer, writer)), 2 * (4 * 125 + 1)), (10, 1002))

    def test_a_kept_tree_with_a_long_text(self):
        for signs in (4999, 5000):
            writer = great_first_tree(signs)
            keeping = Keeping(writer, writer)
            tree = keeping.kept(("top", "m", "m"))[0]
            self.assertEqual((tree.size, len(writer(tree))), (40, signs))
        writer = great_first_tree(5001)
        self.refuse(writer, writer)
        for one, other in ((great_first_tree(5001), great_first_tree(30)), (great_first_tree(30), great_first_tree(5001))):
            self.refuse(one, other)

    def test_before_and_after_do_not_count(self):
        writer = great_first_tree(5000, before="b" * 20)
        keeping = Keeping(writer, writer)
        self.assertEqual(len(keeping.kept(("top", "m", "m"))), 1)
        tree = keeping.kept(("top", "m", "m"))[0]
        self.assertEqual(len(writer.written(tree, "m")), 5000)
        self.assertRaises(TooLong, writer, tree)

    def test_all_pairs_of_modes_without_strings(self):
        # Each of the nine pairs of modes has 216 choices of tops and five constructors without fields: 1989 joins.
        one, other = quiet_writers(5, 1)
        keeping = Keeping(one, other)
        self.assertEqual((len(keeping.states), len(keeping)), (54, 54))
        self.assertEqual([str(tree) for tree in keeping.kept(("t0", "y", "z"))], ["l0; t0 0 0 0"])
        for leaves, threes in ((4, 2), (1, 5), (3, 3)):
            with self.assertRaises(TooManyJoins):
                Keeping(*quiet_writers(leaves, threes))

    def test_a_kept_tree_with_many_rows(self):
        # Trees of more than 200 rows are hardly ever kept, so the limit is set lower here.
        for writer, other in ((looking_writer(), moding_writer()), quiet_writers(5, 1), two_thousand_empty()):
            keeping = Keeping(writer, other)
            most = max(len(tree) for state in keeping.states for tree in keeping.kept(state))
            self.assertGreater(most, 1)
            with unittest.mock.patch("fivetrees.searching.MOST_ROWS", most):
                self.assertEqual(Keeping(writer, other).states, keeping.states)
            with unittest.mock.patch("fivetrees.searching.MOST_ROWS", most - 1):
                with self.assertRaises(TooManyJoins) as caught:
                    Keeping(writer, other)
                self.assertEqual(caught.exception.limit, 2000)


def plain_span(rows):
    """The span of these rows."""
    span = Span()
    for row in rows:
        span.widen(row)
    return span


def quiet_writers(leaves, threes):
    """Two writers of three modes that write all three fields of so many constructors, and nothing else."""
    makes = [f"make l{k} a" for k in range(leaves)] + [f"make t{k} a a a a" for k in range(threes)]
    schema = Schema.read("\n".join(["kind a", *makes]))
    found = []
    for turns in ((0, 1, 2), (0, 0, 1)):
        rules = []
        for at, mode in enumerate("xyz"):
            pieces = tuple((field, "xyz"[(at + turn) % 3]) for field, turn in enumerate(turns))
            rules += [(mode, f"l{k}", (), ()) for k in range(leaves)]
            rules += [(mode, f"t{k}", (None,) * 3, pieces) for k in range(threes)]
        found.append(Writer(schema, tuple(rules), "x"))
    return found


class Spans(unittest.TestCase):
    def test_multiples(self):
        source = random.Random(6)
        for _ in range(200):
            span, known = Span(), []
            for _ in range(4):
                row = [source.choice([0, 1, -1, 2, 7, -10 ** 12]) for _ in range(5)]
                if Span.widen(plain_span(known), row):
                    span.widen((*row, *[int(k == len(known)) for k in range(5)]))
                    known.append(row)
            if known:
                factors = [source.choice([0, 1, -3, 10 ** 9]) for _ in known]
                made = [sum(factor * row[k] for factor, row in zip(factors, known)) for k in range(5)]
                numbers = span.multiples(made, 5)
                self.assertEqual([Fraction(*number) for number in numbers[:len(known)]], factors)
                self.assertTrue(all(under > 0 for _, under in numbers))
                halves = span.multiples(known[0], 5)
                self.assertEqual(halves[:len(known)], [(int(k == 0), 1) for k in range(len(known))])

    def test_multiples_in_lowest_terms(self):
        span = Span()
        span.widen((-4, 0, 0, 0, 0, 1, 0))
        span.widen((0, 6, 0, 0, 0, 0, 1))
        self.assertEqual(span.multiples((2, 4, 0, 0, 0), 5), [(-1, 2), (2, 3)])

    def test_rows_by_chance(self):
        source = random.Random(4)
        for _ in range(300):
            span, sums = Span(), plain.Sums()
            many = source.randint(1, 9)
            known = []
            for _ in range(many):
                row = [source.choice([0, 0, 1, -1, 2, 3, 10 ** 30, -7 ** 40]) for _ in range(5)]
                if known and source.random() < 0.5:
                    picks = [source.choice(known) for _ in range(3)]
                    row = [sum(pick[k] * factor for pick, factor in zip(picks, (3, -5, 1))) for k in range(5)]
                known.append(row)
                self.assertEqual(span.widen(row), sums.widen(row))
                self.assertIs(span.widen(row), False)

    def test_rational_multiples(self):
        span = Span()
        self.assertIs(span.widen((2, 4, 6, 0, 0)), True)
        self.assertIs(span.widen((1, 2, 3, 0, 0)), False)
        self.assertIs(span.widen((0, 0, 0, 0, 0)), False)
        self.assertIs(span.widen((0, 3, 0, 0, 0)), True)
        self.assertIs(span.widen((5, 1, 15, 0, 0)), False)
        self.assertIs(span.widen((5, 1, 14, 0, 0)), True)
        self.assertIs(span.widen((7, 1, 1, 0, 0)), False)
        self.assertIs(span.widen((0, 0, 0, 1, 1)), True)
        self.assertIs(span.widen((1, 1, 1, 0, 1)), True)
        self.assertIs(span.widen((10 ** 40, -1, 1, 3, 1)), False)


if __name__ == "__main__":
    unittest.main()
