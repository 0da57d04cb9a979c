import random
import unittest

from fivetrees import deciding
from fivetrees.deciding import alike, constant_text, enough_trees, first_change, first_unequal, first_unlike
from fivetrees.errors import NotAWriter, OtherSchema, TooLong, TooManyJoins
from fivetrees.keeping import Keeping
from fivetrees.samples import full_writer, looking_writer, moding_writer, sums_schema
from fivetrees.schemas import Schema
from fivetrees.trees import Tree, compare
from fivetrees.writers import Writer
from tests import chance, plain
from tests.examples import BOUGHT, LEAST, SUMS
from tests.limits_of_joins import great_first_tree, one_more, one_more_beside_itself, two_thousand
from tests.test_trees import CHAIN
from tests.values import no_strings

PAIRS = (alike, first_unlike, first_unequal, enough_trees)
SINGLES = (constant_text, first_change)
LOOK = (None, None)


def chain_writer(up, end, two=("t",), **around):
    """A writer for chains, in one mode, with one rule for each constructor."""
    rules = (("m", "end", (), end), ("m", "up", (None,), up), ("m", "two", LOOK, two))
    return Writer(Schema(*CHAIN), rules, "m", **around)


def in_modes(writer, modes):
    """The same rules once for each mode; the fields are written in the modes in turn."""
    rules = []
    for k, mode in enumerate(modes):
        for _, name, looks, pieces in writer.rules:
            new = [piece if isinstance(piece, str) else (piece[0], modes[(k + piece[0] + 1) % len(modes)]) for piece in pieces]
            rules.append((mode, name, looks, tuple(new)))
    return Writer(writer.schema, tuple(rules), modes[-1], before=writer.before, after=writer.after)


def with_looks_written_out(writer):
    """Each rule without looks once for each choice of tops, ahead of itself."""
    rules = []
    for mode, name, looks, pieces in writer.rules:
        fields = writer.schema.constructor(name)[2]
        if len(fields) == 2 and looks == LOOK:
            for one in writer.schema.of_kind(fields[0]):
                for other in writer.schema.of_kind(fields[1]):
                    rules.append((mode, name, ((one,), (other,)), pieces))
        rules.append((mode, name, looks, pieces))
    return Writer(writer.schema, tuple(rules), writer.start, before=writer.before, after=writer.after)


class Alike(unittest.TestCase):
    def check(self, writer, other, first=None, unequal=None):
        self.assertIs(alike(writer, other), first is None)
        self.assertIs(alike(other=other, writer=writer), first is None)
        for call, expected in ((first_unlike, first), (first_unequal, unequal)):
            found = call(writer, other)
            self.assertEqual(None if found is None else str(found), expected)
            found = call(other, writer)
            self.assertEqual(None if found is None else str(found), expected)

    def test_the_samples(self):
        looking, moding, full = looking_writer(), moding_writer(), full_writer()
        self.check(looking, moding)
        self.check(looking, looking)
        self.check(full, looking, "one; add 0 0", "one; add 0 0")
        self.check(full, moding, "one; add 0 0", "one; add 0 0")
        self.check(looking, looking.spelled((("*", "+"),)), "one; mul 0 0")
        self.check(looking, looking.spelled((("(", ")"), (")", "("))), "one; add 0 0; mul 0 1")
        self.check(looking, looking.without_rule(4), "one; add 0 0; mul 0 1", "one; add 0 0; mul 0 1")
        self.check(looking, looking.without_rule(2), "one; add 0 0; mul 1 1", "one; add 0 0; mul 1 1")

    def test_modes_that_are_doubled(self):
        for writer in (full_writer(), looking_writer()):
            self.check(writer, in_modes(writer, ("a", "b")))
            self.check(in_modes(writer, ("a", "b")), in_modes(writer, ("c", "b", "a")))
        doubled = in_modes(full_writer(), ("a", "b", "c"))
        for k, rule in enumerate(doubled.rules):
            wrong = rule[:3] + (rule[3] + ("!",),)
            other = doubled.with_rule(k, wrong)
            found = first_unlike(doubled, other)
            text = next(
                plain.text(one) for one in plain.all_trees(sums_schema(), "num", 7)
                if plain.whole(doubled, one) != plain.whole(other, one)
            )
            self.assertEqual(str(found), text)

    def test_looks_that_are_written_out(self):
        for writer in (full_writer(), looking_writer()):
            self.check(writer, with_looks_written_out(writer))
        self.check(with_looks_written_out(looking_writer()), moding_writer())

    def test_strings_moved_into_other_rules(self):
        # What one writes at the end of a rule, the other writes around the field.
        self.check(chain_writer(((0, "m"), "x"), ("e",)), chain_writer((("x"), (0, "m")), ("e",)), "end; up 0")
        self.check(chain_writer(("ab", (0, "m")), ("a",)), chain_writer(("ba", (0, "m")), ("a",)), "end; up 0")
        # Here all that is written is made of the same two signs in turn.
        schema = Schema(("n",), (("end", "n", ()), ("up", "n", ("n",))))

        def writer(up, end, **around):
            return Writer(schema, (("m", "end", (), end), ("m", "up", (None,), up)), "m", **around)

        self.check(writer(("ab", (0, "m")), ("a",)), writer(((0, "m"), "ba"), ("a",)))
        self.check(writer(("ab", (0, "m")), ()), writer(((0, "m"), "ab"), ()))
        self.check(writer(("ab", (0, "m")), ("b",)), writer(((0, "m"), "ba"), ("b",)), "end; up 0")
        self.check(writer(("abab", (0, "m")), ("a",)), writer(("ab", (0, "m"), "ba"), ("a",)))
        self.check(writer(("ab", (0, "m")), ("ab",)), writer(("ab", (0, "m")), (), after="ab"))
        self.check(writer(("ab", (0, "m")), (), before="ab"), writer(((0, "m"), "ab"), (), after="ab"))
        self.check(writer(("ab", (0, "m")), (), before="b"), writer(("ba", (0, "m")), (), after="b"))
        self.check(writer(("ab", (0, "m")), (), before="a"), writer(("ba", (0, "m")), (), after="a"), "end; up 0")

    def test_before_and_after(self):
        full = full_writer()
        for one, other, first, unequal in (
            ("x" + full, "x" + full, None, None), ("x" + full, full + "x", "one", None), ("x" + full, full, "one", "one"),
            ("1" + full, full + "1", "one; add 0 0", None), ("11" + full, full + "11", "one; add 0 0", None),
            ("x" + full + "y", "y" + full + "x", "one", None), ("x" + full + "y", "xy" + full, "one", None),
            ("x" + full + "yz", "x" + full + "y", "one", "one"),
        ):
            self.check(one, other, first, unequal)

    def test_the_same_lengths_but_not_the_same_texts(self):
        full = full_writer()
        self.check(full, full.spelled((("(", "["),)), "one; add 0 0")
        self.check(full, full.exchanged("add", 0, 1), "one; add 0 0; add 0 1")
        self.check(full, full.exchanged("mul", 0, 1), "one; add 0 0; mul 0 1")
        self.check(full, full.using("mul", "add"), "one; mul 0 0")

    def test_exchanged_fields_that_are_written_alike(self):
        rules = (("m", "one", (), ("1",)), ("m", "add", LOOK, ((0, "m"), (1, "m"))), ("m", "mul", LOOK, ((1, "m"), "1", (0, "m"))))
        writer = Writer(sums_schema(), rules, "m")
        self.check(writer, writer.exchanged("add", 0, 1).exchanged("mul", 0, 1))
        other = Writer(sums_schema(), rules[:2] + (("m", "mul", LOOK, ("1", (0, "m"), (1, "m"))),), "m")
        self.check(writer, other)
        other = Writer(sums_schema(), rules[:2] + (("m", "mul", LOOK, ((0, "m"), (1, "m"))),), "m")
        self.check(writer, other, "one; mul 0 0", "one; mul 0 0")

    def test_pairs_that_part_late(self):
        # The modes count the constructors up; only the third one writes another sign.
        def late(last):
            rules = [("a", "end", (), ("e",)), ("b", "end", (), ("e",)), ("c", "end", (), ("e",))]
            for mode, below in (("a", "b"), ("b", "c")):
                rules += [(mode, "up", (None,), ("u", (0, below))), (mode, "two", LOOK, ("t", (0, below), (1, below)))]
            rules += [("c", "up", (None,), (last, (0, "c"))), ("c", "two", LOOK, ("t", (0, "c"), (1, "c")))]
            return Writer(Schema(*CHAIN), tuple(rules), "a")

        self.check(late("u"), late("v"), "end; up 0; up 1; up 2")
        self.check(late("u"), late("uu"), "end; up 0; up 1; up 2", "end; up 0; up 1; up 2")
        self.check(late("u"), in_modes(chain_writer(("u", (0, "m")), ("e",), ("t", (0, "m"), (1, "m"))), ("m", "n")))
        looks = (("a", "up", (("up",),), ("x", (0, "a"))), ("b", "two", (("two",), ("up",)), ("y",)))
        one, other = late("u").with_rule(3, looks[1]), late("u")
        self.check(one, other, "end; two 0 0; up 0; two 1 2; up 3", "end; two 0 0; up 0; two 1 2; up 3")

    def test_pairs_by_chance(self):
        source = random.Random(21)
        found = {True: 0, False: 0}
        for _ in range(120):
            schema = chance.schema(source)
            writer = chance.writer(source, schema, "aab"[:source.randint(1, 3)])
            other = self.other_writer(source, writer)
            try:
                result = alike(writer, other)
            except TooManyJoins:
                continue
            self.check_all(writer, other)
            found[result] += 1
        self.assertGreater(min(found.values()), 15)

    def other_writer(self, source, writer):
        """One that often writes alike, but not always."""
        choice = source.randrange(4)
        if choice == 0 and len(writer.rules) <= 13:
            return in_modes(writer, writer.modes) if len(writer.modes) == 1 else writer.with_rule(len(writer.rules), writer.rules[0])
        if choice == 1:
            return Writer(writer.schema, writer.rules, writer.start, before=writer.after, after=writer.before)
        if choice == 2:
            return writer.with_rule(len(writer.rules), writer.rules[-1])
        return chance.writer(source, writer.schema, "aab"[:source.randint(1, 3)])

    def check_all(self, writer, other):
        known = plain.all_trees(writer.schema, writer.schema.root, 6)[:300]
        texts = [(one, plain.whole(writer, one), plain.whole(other, one)) for one in known]
        unlike = [plain.text(one) for one, text, more in texts if text != more]
        unequal = [plain.text(one) for one, text, more in texts if len(text) != len(more)]
        for call, expected in ((first_unlike, unlike), (first_unequal, unequal)):
            found = call(writer, other)
            if expected:
                self.assertEqual(str(found), expected[0])
            elif found is not None:
                self.assertGreater(plain.order(writer.schema, plain.plain(found)), plain.order(writer.schema, known[-1]))

    def test_equal_schemas_that_are_not_the_same_object(self):
        writer = Writer(Schema(*SUMS), moding_writer().rules, "sum")
        self.check(writer, looking_writer())

    def test_a_tree_is_returned(self):
        tree = first_unlike(looking_writer(), full_writer())
        self.assertIs(type(tree), Tree)
        self.assertTrue(tree == Tree.read(sums_schema(), "one; add 0 0"))
        self.assertNotEqual(looking_writer()(tree), full_writer()(tree))

    def test_kinds_with_one_tree(self):
        schema = Schema(*LEAST)
        writer, other = (Writer(schema, (("m", "b", (), pieces),), "m") for pieces in (("ab",), ("a", "b")))
        self.check(writer, other)
        self.check(writer, writer + "c", "b", "b")


class Enough(unittest.TestCase):
    def test_the_trees(self):
        pairs = [(one, other) for one in (looking_writer(), moding_writer()) for other in (moding_writer(), full_writer())]
        pairs += [two_thousand(), (great_first_tree(5000), great_first_tree(30))]
        for writer, other in pairs:
            found = enough_trees(writer, other)
            self.assertIs(type(found), tuple)
            keeping = Keeping(writer, other)
            kept = [tree for state in plain.root_states(writer, other) for tree in keeping.kept(state)]
            self.assertEqual(sorted(map(str, found)), sorted(map(str, kept)))
            self.assertLessEqual(len(found), 5 * len(writer.schema.of_kind(writer.schema.root)))
            for one, later in zip(found, found[1:]):
                self.assertEqual(compare(one, later), -1)
            self.assertTrue(found == enough_trees(other=other, writer=writer))

    def test_by_an_own_look(self):
        found = plain.kept(looking_writer(), full_writer(), plain.root_states(looking_writer(), full_writer()), 7)
        kept = [tree for name in SUMS[1] for tree in found[(name[0], "top", "all")]]
        kept = sorted(kept, key=lambda tree: plain.order(sums_schema(), tree))
        self.assertEqual([plain.plain(tree) for tree in enough_trees(looking_writer(), full_writer())], kept)

    def test_other_kinds_are_not_among_them(self):
        schema = Schema(*BOUGHT)
        writer = Writer(schema, (("m", "nil", (), ("[]",)), ("m", "put", LOOK, ((0, "m"), (1, "m"))), ("m", "dot", (), (".",))), "m")
        self.assertEqual({tree.kind for tree in enough_trees(writer, writer)}, {"list"})
        self.assertEqual(str(enough_trees(writer, writer)[0]), "nil")


class Constant(unittest.TestCase):
    def check(self, writer, text, change=None):
        self.assertEqual(constant_text(writer), text)
        self.assertEqual(constant_text(writer=writer), text)
        found = first_change(writer)
        self.assertEqual(None if found is None else str(found), change)
        self.assertTrue(first_change(writer=writer) == found)

    def test_the_samples(self):
        for writer in (looking_writer(), moding_writer(), full_writer()):
            self.check(writer, None, "one; add 0 0")

    def test_constant_writers(self):
        self.check(chain_writer(((0, "m"),), ("e",), ((1, "m"),)), "e")
        self.check(chain_writer(((0, "m"),), (), ((1, "m"), (0, "m"))), "")
        self.check(chain_writer(((0, "m"),), (), ((1, "m"), (0, "m")), before="<", after=">"), "<>")
        self.check(chain_writer(("ab",), ("a", "b"), ("a", "b"), before="a"), "aab")
        self.check(chain_writer(((0, "m"),), ("e",), ((1, "m"), (0, "m"))), None, "end; two 0 0")
        self.check(chain_writer(((0, "m"),), ("e",), ("f",)), None, "end; two 0 0")
        self.check(chain_writer(("e",), ("e",), ("e", (0, "m"))), None, "end; two 0 0")

    def test_constant_in_each_mode(self):
        rules = (
            ("a", "end", (), ("xy",)), ("a", "up", (None,), ((0, "b"), "y")), ("a", "two", LOOK, ("x", (0, "c"))),
            ("b", "end", (), ("x",)), ("b", "up", (None,), ((0, "b"),)), ("b", "two", LOOK, ("x",)),
            ("c", "end", (), ("y",)), ("c", "up", (None,), ("y",)), ("c", "two", LOOK, ((1, "c"),)),
        )
        writer = Writer(Schema(*CHAIN), rules, "a", after="!")
        self.check(writer, "xy!")
        for k in (6, 7, 8):
            bent = writer.with_rule(k, rules[k][:3] + (("z",),))
            text = next(
                plain.text(one) for one in plain.all_trees(writer.schema, "n", 6) if plain.whole(bent, one) != "xy!"
            )
            self.check(bent, None, text)

    def test_changes_that_come_late(self):
        rules = (
            ("a", "end", (), ("x",)), ("a", "up", (None,), ((0, "b"),)), ("a", "two", LOOK, ("x",)),
            ("b", "end", (), ("x",)), ("b", "up", (None,), ((0, "c"),)), ("b", "two", LOOK, ("x",)),
            ("c", "end", (), ("x",)), ("c", "up", (None,), ("x",)), ("c", "two", (("two",), ("up",)), ("y",)),
            ("c", "two", LOOK, ("x",)),
        )
        self.check(Writer(Schema(*CHAIN), rules, "a"), None, "end; two 0 0; up 0; two 1 2; up 3; up 4")
        self.check(Writer(Schema(*CHAIN), rules[:8] + rules[9:], "a"), "x")

    def test_writers_by_chance(self):
        source = random.Random(31)
        found = 0
        for _ in range(80):
            schema = chance.schema(source)
            writer = chance.writer(source, schema, "a")
            try:
                text = constant_text(writer)
            except TooManyJoins:
                self.assertRaises(TooManyJoins, first_change, writer)
                continue
            known = plain.all_trees(schema, schema.root, 6)[:300]
            texts = [plain.whole(writer, one) for one in known]
            changes = [plain.text(one) for one, other in zip(known, texts) if other != texts[0]]
            if changes:
                self.check(writer, None, changes[0])
            elif text is not None:
                found += 1
                self.check(writer, texts[0] if texts else text)
        self.assertGreater(found, 5)

    def test_long_texts(self):
        writer = great_first_tree(5000)
        text = writer(enough_trees(writer, writer)[0])
        self.assertEqual(len(text), 5000)
        self.check(writer, text)
        writer = great_first_tree(4990, before="b" * 10)
        self.assertEqual(len(constant_text(writer)), 5000)
        for signs, before in ((5000, 1), (5000, 20), (4981, 20), (4991, 10)):
            for call in SINGLES:
                with self.assertRaises(TooLong) as caught:
                    call(great_first_tree(signs, before="b" * before))
                self.assertEqual(caught.exception.found, signs + before)

    def test_the_first_tree_alone_must_be_short(self):
        # A later tree has a text that is too long with what is added before.
        constructors = (("leaf", "a", ()), ("top", "a", ("b",) * 3), ("low", "b", ("c",) * 3), ("end", "c", ("d",) * 3), ("bud", "d", ()))
        rules = (
            ("m", "leaf", (), ("x",)), ("m", "top", (None,) * 3, ("y" * 20,) * 4 + ("y" * 15, (0, "m"), (1, "m"), (2, "m"))),
            ("m", "low", (None,) * 3, ("y" * 20, (0, "m"), (1, "m"), (2, "m"), "y" * 20, "y" * 20)),
            ("m", "end", (None,) * 3, ((0, "m"), (1, "m"), (2, "m"))), ("m", "bud", (), ("z" * 20,) * 8 + ("z" * 15,)),
        )
        writer = Writer(Schema(("a", "b", "c", "d"), constructors), rules, "m", before="b" * 20)
        tree = Tree.read(writer.schema, "bud; end 0 0 0; low 1 1 1; top 2 2 2")
        self.assertEqual(len(writer.written(tree, "m")), 27 * 175 + 3 * 60 + 95)
        self.assertRaises(TooLong, writer, tree)
        self.check(writer + "c" * 20, None, str(tree))
        self.check(writer.with_rule(0, ("m", "leaf", (), ("y" * 20,))), None, str(tree))


class Refused(unittest.TestCase):
    def test_no_writers(self):
        for value in no_strings() + [full_writer().form, sums_schema(), Tree(sums_schema(), "one"), Writer]:
            for call in PAIRS:
                for other in (value, full_writer(), 1):
                    with self.assertRaises(NotAWriter) as caught:
                        call(value, other)
                    self.assertIs(caught.exception.value, value)
                with self.assertRaises(NotAWriter) as caught:
                    call(one_more_beside_itself(), value)
                self.assertIs(caught.exception.value, value)
            for call in SINGLES:
                with self.assertRaises(NotAWriter) as caught:
                    call(value)
                self.assertIs(caught.exception.value, value)

    def test_other_schemas(self):
        small = Writer(Schema(*LEAST), (("m", "b", (), ()),), "m")
        kinds, constructors = SUMS
        turned = Writer(Schema(kinds, constructors[::-1]), full_writer().rules, "all")
        for call in PAIRS:
            for one, other in ((small, full_writer()), (full_writer(), turned), (one_more_beside_itself(), small), (small, one_more()[1])):
                self.assertRaises(OtherSchema, call, one, other)
                self.assertRaises(OtherSchema, call, other, one)

    def test_joins(self):
        for call in PAIRS:
            call(*two_thousand())
            for one, other in (one_more(), (one_more_beside_itself(),) * 2, (great_first_tree(5001), great_first_tree(1))):
                with self.assertRaises(TooManyJoins) as caught:
                    call(one, other)
                self.assertEqual(caught.exception.limit, 2000)
        for call in SINGLES:
            for writer in (one_more_beside_itself(), great_first_tree(5001), great_first_tree(5001, before="b")):
                with self.assertRaises(TooManyJoins) as caught:
                    call(writer)
                self.assertEqual(caught.exception.limit, 2000)

    def test_joins_count_even_where_a_tree_is_found_at_once(self):
        writer = one_more_beside_itself()
        self.assertRaises(TooManyJoins, alike, writer, "x" + writer)
        self.assertRaises(TooManyJoins, first_unequal, writer, "x" + writer)

    def test_where_they_are_defined(self):
        for call in PAIRS + SINGLES:
            self.assertEqual(call.__module__, deciding.__name__)


if __name__ == "__main__":
    unittest.main()
