import random
import unittest

from fivetrees import modes
from fivetrees.deciding import alike
from fivetrees.errors import NotAWriter, TooManyJoins, UnknownKind
from fivetrees.modes import lean, mode_classes
from fivetrees.samples import full_writer, looking_writer, moding_writer, sums_schema
from fivetrees.schemas import Schema
from fivetrees.trees import Tree
from fivetrees.writers import Writer
from tests import chance, plain
from tests.examples import BOUGHT, SUMS
from tests.limits_of_joins import great_first_tree, one_more_beside_itself, one_more_for_modes, two_thousand
from tests.test_deciding import LOOK, in_modes
from tests.test_writing import BOUGHT_RULES, needed
from tests.values import no_names, no_strings

# Lists of items; the item is written in modes, and the list in others.
ITEMS = (
    ("list", "item"),
    (("nil", "list", ()), ("put", "list", ("item", "list")), ("dot", "item", ()), ("box", "item", ("list",))),
)


def items_writer(dots, nils, start="a"):
    """A writer with a sign for a dot and one for the empty list in each of the modes a, b, c."""
    rules = []
    for mode, below, dot, nil in zip("abc", "bca", dots, nils):
        rules += [
            (mode, "nil", (), (nil,)), (mode, "put", LOOK, ((0, below), (1, below))), (mode, "dot", (), (dot,)),
            (mode, "box", (None,), ("[", (0, below), "]")),
        ]
    return Writer(Schema(*ITEMS), tuple(rules), start)


class Classes(unittest.TestCase):
    def test_the_samples(self):
        self.assertEqual(mode_classes(looking_writer(), "num"), (("top",),))
        self.assertEqual(mode_classes(moding_writer(), "num"), (("sum",), ("part",)))
        self.assertEqual(mode_classes(kind="num", writer=full_writer()), (("all",),))

    def test_modes_that_are_one(self):
        for names in (("a", "b"), ("b", "a"), ("a", "b", "c"), ("c", "a", "b")):
            self.assertEqual(mode_classes(in_modes(full_writer(), names), "num"), (names,))
            if len(names) == 2:
                self.assertEqual(mode_classes(in_modes(looking_writer(), names), "num"), (names,))

    def test_modes_that_are_one_for_each_kind(self):
        for dots, nils, classes in (
            ("...", "000", (("a", "b", "c"),)), ("..,", "000", (("a",), ("b",), ("c",))), ("...", "001", (("a",), ("b",), ("c",))),
        ):
            writer = items_writer(dots, nils)
            for kind in ("list", "item"):
                self.assertEqual(mode_classes(writer, kind), classes)

    def test_modes_that_are_one_for_one_kind_alone(self):
        rules = (
            ("a", "nil", (), ("0",)), ("a", "put", LOOK, ((0, "a"), (1, "b"))), ("a", "dot", (), (".",)), ("a", "box", (None,), ("[]",)),
            ("b", "nil", (), ("0",)), ("b", "put", LOOK, ((0, "b"), (1, "a"))), ("b", "dot", (), (".",)), ("b", "box", (None,), ("[]",)),
        )
        schema = Schema(*ITEMS)
        self.assertEqual([mode_classes(Writer(schema, rules, "a"), kind) for kind in schema.kinds], [(("a", "b"),)] * 2)
        other = rules[:4] + (("b", "nil", (), ("1",)),) + rules[5:]
        found = [mode_classes(Writer(schema, other, "a"), kind) for kind in schema.kinds]
        self.assertEqual(found, [(("a",), ("b",)), (("a", "b"),)])
        other = rules[:1] + (("a", "put", LOOK, (":", (1, "b"))),) + rules[2:5] + (("b", "put", LOOK, (":", (1, "a"))),) + rules[6:]
        found = [mode_classes(Writer(schema, other, "a"), kind) for kind in schema.kinds]
        self.assertEqual(found, [(("a", "b"),), ()])

    def test_classes_that_are_not_side_by_side(self):
        schema = Schema(("r", "k"), (("top", "r", ("k", "k", "k")), ("x", "k", ()), ("y", "k", ())))

        def writer(*pairs):
            rules = [("a", "top", (None,) * 3, ((0, "a"), (1, "b"), (2, "c")))]
            for mode, (one, other) in zip("abc", pairs):
                rules += [(mode, "x", (), (one,)), (mode, "y", (), (other,))]
            return Writer(schema, tuple(rules), "a")

        for pairs, classes in (
            (("xy", "xz", "xy"), (("a", "c"), ("b",))), (("xy", "xy", "xz"), (("a", "b"), ("c",))),
            (("xy", "xz", "xz"), (("a",), ("b", "c"))), (("xy", "xz", "xw"), (("a",), ("b",), ("c",))),
            (("xy", "xy", "xy"), (("a", "b", "c"),)),
        ):
            self.assertEqual(mode_classes(writer(*pairs), "k"), classes)
            self.assertEqual(mode_classes(writer(*pairs), "r"), (("a",),))

    def test_the_order_of_the_modes(self):
        rules = in_modes(full_writer(), ("z", "m", "a")).rules
        for order in ((0, 3, 6), (6, 3, 0), (3, 6, 0)):
            chosen = [rule for start in order for rule in rules[start:start + 3]]
            names = tuple(rules[start][0] for start in order)
            self.assertEqual(mode_classes(Writer(sums_schema(), tuple(chosen), "a"), "num"), (names,))

    def test_kinds_without_modes(self):
        schema = Schema(*BOUGHT)
        writer = Writer(schema, BOUGHT_RULES, "m")
        self.assertEqual([mode_classes(writer, kind) for kind in schema.kinds], [(("m",),), (("n",),)])
        rules = (("m", "nil", (), ("[]",)), ("m", "put", LOOK, (":", (1, "m"))))
        self.assertEqual([mode_classes(Writer(schema, rules, "m"), kind) for kind in schema.kinds], [(("m",),), ()])

    def test_writers_by_chance(self):
        source = random.Random(41)
        found = 0
        for _ in range(100):
            schema = chance.schema(source)
            writer = chance.writer(source, schema, "aab"[:source.randint(1, 3)], ("x", "y", "z"))
            if source.random() < 0.4:
                writer = in_modes(chance.writer(source, schema, "aab", ("x",)), ("x", "z", "y"))
            for kind in schema.kinds:
                try:
                    classes = mode_classes(writer, kind)
                except TooManyJoins:
                    continue
                known = plain.all_trees(schema, kind, 6)[:150]
                expected = [mode for mode in writer.modes if (mode, kind) in needed(writer)]
                self.assertEqual(sorted(sum(classes, ())), sorted(expected))
                self.check_classes(writer, classes, known)
                found += len(classes) < len(expected)
        self.assertGreater(found, 5)

    def check_classes(self, writer, classes, known):
        order = [writer.modes.index(row[0]) for row in classes]
        self.assertEqual(order, sorted(order))
        texts = {mode: [plain.write(writer.rules, one, mode) for one in known] for row in classes for mode in row}
        for row in classes:
            self.assertEqual(list(row), sorted(row, key=writer.modes.index))
            for mode in row:
                self.assertEqual(texts[mode], texts[row[0]])
        # Small trees tell apart what is not alike, where there are enough of them.
        for one, other in zip(classes, classes[1:]):
            if len(known) > 20:
                self.assertNotEqual(texts[one[0]], texts[other[0]])

    def test_errors(self):
        for value in no_strings() + [full_writer().form, sums_schema(), Writer]:
            for kind in ("num", 1):
                with self.assertRaises(NotAWriter) as caught:
                    mode_classes(value, kind)
                self.assertIs(caught.exception.value, value)
        for value in no_names() + ["all", "one", "nu", ("num",)]:
            for writer in (full_writer(), one_more_for_modes(), one_more_beside_itself()):
                with self.assertRaises(UnknownKind) as caught:
                    mode_classes(writer, value)
                self.assertIs(caught.exception.value, value)

    def test_joins(self):
        writer = one_more_for_modes()
        pairs = (("a", "b"), ("a", "c"), ("b", "c"))
        starts = [(name, *pair) for pair in pairs for name in writer.schema.names]
        self.assertEqual(plain.joins(writer, writer, starts, 10), (2001, 10))
        with self.assertRaises(TooManyJoins) as caught:
            mode_classes(writer, "n")
        self.assertEqual(caught.exception.limit, 2000)
        # The same constructors in one mode less.
        two = (writer.rules[0], writer.rules[1][:3] + (("y", (0, "b"), (1, "b"), (2, "b")),)) + writer.rules[2:6]
        self.assertEqual(mode_classes(Writer(writer.schema, two, "a"), "n"), (("a",), ("b",)))

    def test_one_mode_has_no_joins(self):
        for writer in (*two_thousand(), great_first_tree(5400)):
            self.assertEqual(mode_classes(writer, writer.schema.root), ((writer.start,),))

    def test_long_texts(self):
        writer = great_first_tree(5001)
        twice = Writer(writer.schema, writer.rules + tuple(("n", *rule[1:]) for rule in writer.rules), "m")
        self.assertEqual([mode_classes(twice, kind) for kind in "abcd"], [(("m",),)] * 4)
        # With one constructor more the second mode is needed, too.
        schema = Schema(twice.schema.kinds, twice.schema.constructors + (("up", "a", ("a",)),))
        for signs in (5000, 5001):
            rules = great_first_tree(signs).rules
            more = (("n", *rules[0][1:]), ("m", "up", (None,), ((0, "n"),)), ("n", "up", (None,), ((0, "m"),)))
            both = Writer(schema, rules + more, "m")
            if signs == 5000:
                self.assertEqual(mode_classes(both, "a"), (("m", "n"),))
            else:
                self.assertRaises(TooManyJoins, mode_classes, both, "a")
            self.assertEqual(mode_classes(both, "d"), (("m",),))

    def test_where_they_are_defined(self):
        for call in (mode_classes, lean):
            self.assertEqual(call.__module__, modes.__name__)


class Lean(unittest.TestCase):
    def check(self, writer, rules, start):
        found = lean(writer)
        self.assertEqual((found.rules, found.start), (rules, start))
        self.assertEqual((found.before, found.after), (writer.before, writer.after))
        self.assertTrue(found.schema == writer.schema)
        self.assertTrue(lean(writer=writer) == found)
        self.assertTrue(lean(found) == found)
        self.same(writer, found)

    def same(self, writer, other):
        for one in plain.all_trees(writer.schema, writer.schema.root, 7)[:200]:
            self.assertEqual(plain.whole(other, one), plain.whole(writer, one))

    def test_the_samples(self):
        for writer in (looking_writer(), moding_writer(), full_writer(), "<" + full_writer() + ">\n"):
            self.check(writer, writer.rules, writer.start)

    def test_modes_that_are_one(self):
        for names in (("a", "b"), ("b", "a"), ("c", "b", "a")):
            doubled = "<" + in_modes(full_writer(), names) + ">"
            expected = in_modes(full_writer(), names[:1])
            self.check(doubled, expected.rules, names[0])

    def test_rules_behind_one_without_looks(self):
        full = full_writer()
        looks = ("all", "add", (("one",), None), ("(", (0, "all"), "+", (1, "all"), ")"))
        last = ("all", "one", (), ("2",))
        for index, left in ((0, True), (1, True), (2, False), (3, False)):
            writer = full.with_rule(index, looks)
            self.check(writer, writer.rules if left else full.rules, "all")
        for index in (1, 2, 3):
            self.check(full.with_rule(index, last), full.rules, "all")
        self.check(full.with_rule(0, last), (last,) + full.rules[1:], "all")
        self.check(Writer(sums_schema(), full.rules * 3, "all"), full.rules, "all")
        # A rule of another mode or constructor does not stand ahead of it.
        self.check(moding_writer(), moding_writer().rules, "sum")

    def test_rules_with_looks_stay(self):
        looks = ("all", "add", (("one", "add", "mul"), None), ("x",))
        writer = full_writer().with_rule(0, looks)
        self.check(writer, writer.rules, "all")
        rules = (looks, looks) + full_writer().rules
        self.check(Writer(sums_schema(), rules, "all"), rules, "all")

    def test_modes_that_are_not_needed(self):
        full = full_writer()
        more = (("n", "one", (), ("2",)), ("n", "add", (("one",), None), ((0, "all"),)))
        writer = Writer(sums_schema(), more + full.rules, "all")
        self.check(writer, full.rules, "all")
        # Needed by a rule alone that stands behind one without looks.
        rules = full.rules + in_modes(moding_like(), ("n",)).rules + (("all", "mul", (("one",), None), ((0, "n"),)),)
        writer = Writer(sums_schema(), rules, "all")
        self.assertIn(("n", "num"), needed(writer))
        self.check(writer, full.rules, "all")

    def test_modes_of_kinds_that_are_not_needed(self):
        schema = Schema(*BOUGHT)
        writer = Writer(schema, BOUGHT_RULES, "m")
        self.check(writer, BOUGHT_RULES[:3], "m")
        more = BOUGHT_RULES[:3] + (("m", "dot", (), ("no",)), ("n", "nil", (), ("no",)))
        self.check(Writer(schema, more, "m"), BOUGHT_RULES[:3], "m")

    def test_pieces_of_rules_that_are_not_needed(self):
        # In these rules the modes are not exchanged, and so a mode can be needed by none of those that are left.
        schema = Schema(*BOUGHT)
        rules = (
            ("m", "nil", (), ("[]",)), ("m", "put", LOOK, ((0, "k"), (1, "n"))), ("n", "nil", (), ("[]",)),
            ("n", "put", LOOK, ((0, "n"), (1, "m"))), ("n", "dot", (), (".",)), ("k", "dot", (), (".",)),
            ("k", "put", LOOK, ((0, "k"), (1, "k"))),
        )
        left = (("m", "nil", (), ("[]",)), ("m", "put", LOOK, ((0, "n"), (1, "m"))), ("n", "dot", (), (".",)))
        writer = Writer(schema, rules, "m")
        self.assertEqual([mode_classes(writer, kind) for kind in schema.kinds], [(("m", "n"),), (("n", "k"),)])
        self.check(writer, left, "m")
        self.check(Writer(schema, rules, "n"), left, "m")

    def test_the_start(self):
        doubled = in_modes(full_writer(), ("a", "b"))
        self.assertEqual(doubled.start, "b")
        self.check(doubled, in_modes(full_writer(), ("a",)).rules, "a")
        self.assertEqual(lean(Writer(sums_schema(), moding_writer().rules, "part")).start, "part")

    def test_writers_by_chance(self):
        source = random.Random(51)
        found = 0
        for _ in range(120):
            schema = chance.schema(source)
            writer = chance.writer(source, schema, "aab"[:source.randint(1, 3)], ("x", "y", "z")[:source.randint(1, 3)])
            try:
                new = lean(writer)
            except TooManyJoins:
                self.assertTrue(any(self.is_refused(writer, kind) for kind in schema.kinds))
                continue
            self.same(writer, new)
            self.assertEqual(new.rules, self.lean_rules(writer, new.start))
            if len(new.rules) < 6:
                self.assertIs(alike(writer, new), True)
            found += len(new.rules) < len(writer.rules)
        self.assertGreater(found, 20)

    def is_refused(self, writer, kind):
        try:
            mode_classes(writer, kind)
        except TooManyJoins:
            return True
        return False

    def lean_rules(self, writer, start):
        """The rules that are left, by the words of the document."""
        schema = writer.schema
        first = {
            (mode, kind): row[0] for kind in schema.kinds for row in mode_classes(writer, kind) for mode in row
        }
        self.assertEqual(start, first[(writer.start, schema.root)])
        rules = []
        for mode, name, looks, pieces in writer.rules:
            _, kind, fields = schema.constructor(name)
            if (mode, kind) in needed(writer):
                pieces = tuple(
                    piece if isinstance(piece, str) else (piece[0], first[(piece[1], fields[piece[0]])]) for piece in pieces
                )
            rules.append((mode, name, looks, pieces))
        ahead = [{rule[:2] for rule in rules[:k] if set(rule[2]) <= {None}} for k in range(len(rules))]
        rules = [rule for rule, known in zip(rules, ahead) if rule[:2] not in known]
        left = needed(Writer(schema, tuple(rules), start))
        return tuple(rule for rule in rules if (rule[0], schema.constructor(rule[1])[1]) in left)

    def test_errors(self):
        for value in no_strings() + [full_writer().form, sums_schema(), Tree(sums_schema(), "one"), Writer]:
            with self.assertRaises(NotAWriter) as caught:
                lean(value)
            self.assertIs(caught.exception.value, value)
        for call in (lambda: lean(one_more_for_modes()), lambda: lean(writer=one_more_for_modes())):
            with self.assertRaises(TooManyJoins) as caught:
                call()
            self.assertEqual(caught.exception.limit, 2000)

    def test_joins_of_each_kind_alone(self):
        # Beside itself the writer has too many joins, but none of its kinds has two modes.
        writer = great_first_tree(5400)
        self.assertTrue(lean(writer) == writer)
        # A kind other than the root kind can have too many.
        inner = one_more_for_modes()
        schema = Schema(("top", "n"), (("begin", "top", ("n",)),) + inner.schema.constructors)
        writer = Writer(schema, (("a", "begin", (None,), ((0, "a"),)),) + inner.rules, "a")
        self.assertEqual(mode_classes(writer, "top"), (("a",),))
        self.assertRaises(TooManyJoins, mode_classes, writer, "n")
        self.assertRaises(TooManyJoins, lean, writer)


def moding_like():
    """Another writer for sums, in one mode."""
    rules = tuple(("m", name, (None,) * len(fields), (name,)) for name, _, fields in SUMS[1])
    return Writer(sums_schema(), rules, "m")


if __name__ == "__main__":
    unittest.main()
