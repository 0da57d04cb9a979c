import random
import unittest

from fivetrees import readings
from fivetrees.errors import InvalidText, NotAWriter, TooLong, TooManyRows
from fivetrees.readings import first_reading, second_reading
from fivetrees.samples import full_writer, looking_writer, moding_writer, sums_schema
from fivetrees.schemas import Schema
from fivetrees.trees import Tree
from fivetrees.writers import Writer
from tests import chance, plain
from tests.test_deciding import LOOK, chain_writer
from tests.values import no_strings

CALLS = (first_reading, second_reading)
CHAIN_SCHEMA = "kind n\n" + "\n".join([f"make c{k} n n" for k in range(5)] + ["make end n"])


def shown(writer, text):
    """The texts of the first and the second reading."""
    return [str(call(writer, text)) for call in CALLS]


def long_way():
    """A writer that needs ten constructors for each sign a behind the first one.

    In the mode x the chain from c0 to c4 adds nothing, in y it ends in an a; behind c3 it may begin anew.
    The first chain may begin anywhere.
    Near the end one of the signs in .:,; tells how far the last chain goes.
    """
    rules = []
    for mode in "xy":
        for k in range(4):
            again = (f"c{k + 1}",) if k < 3 else ("c4", "c0")
            rules += [
                (mode, f"c{k}", (again,), ((0, mode),)), (mode, f"c{k}", (("end",),), (".:,;"[k],)),
                (mode, f"c{k}", (None,), ("!",)),
            ]
        rules.append((mode, "end", (), ()))
    rules += [
        ("x", "c4", (("c0",),), ((0, "y"),)), ("x", "c4", (None,), ("!",)),
        ("y", "c4", (("c0", "end"),), ("a", (0, "x"))), ("y", "c4", (None,), ("!",)),
    ]
    return Writer(Schema.read(CHAIN_SCHEMA), tuple(rules), "x")


class Small(unittest.TestCase):
    def check(self, writer, most, others=(), texts=None):
        """Compare with a look at all trees up to a size."""
        known = {}
        for tree in plain.all_trees(writer.schema, writer.schema.root, most):
            known.setdefault(plain.whole(writer, tree), []).append(tree)
        late = 0
        for text in [*list(known)[:texts], *others]:
            if len(text) > 40:
                continue
            expected = known.get(text, [])
            for number, call in enumerate(CALLS):
                found = call(writer, text)
                if number < len(expected):
                    self.assertEqual(plain.plain(found), expected[number], (text, number))
                elif found is not None:
                    late += 1
                    self.assertGreater(found.size, most)
                    self.assertEqual(writer(found), text)
        return late

    def test_the_samples(self):
        wrong = ("", "1+", "+1", "(1)", "1 + 1", "2", "1+(1+1)", "((1+1))", "1*(1*1)", "()", ")1", "\n", "1\u00e9")
        for writer in (looking_writer(), moding_writer(), full_writer(), "=" + full_writer() + ";\n"):
            self.assertEqual(self.check(writer, 9, wrong), 0)

    def test_by_chance(self):
        source = random.Random(21)
        late = 0
        for _ in range(150):
            writer = chance.writer(source, chance.schema(source), source.choice(["a", "ab", "abc"]))
            others = ["".join(source.choices("abc", k=source.randint(0, 6))) for _ in range(5)]
            late += self.check(writer, 5, others, 12)
        self.assertGreater(late, 20)

    def test_all_short_texts(self):
        source = random.Random(22)
        texts = [""]
        for _ in range(4):
            texts += [text + sign for text in texts for sign in "ab"]
        for _ in range(25):
            self.check(chance.writer(source, chance.schema(source), "ab"), 6, sorted(set(texts)), 0)


class Special(unittest.TestCase):
    def test_empty_texts(self):
        schema = Schema.read("kind n\nmake end n\nmake two n n n\nmake up n n")
        rules = (("m", "end", (), ()), ("m", "two", LOOK, ((1, "m"), (0, "m"))), ("m", "up", (None,), ("a", (0, "m"))))
        writer = Writer(schema, rules, "m")
        self.assertEqual(shown(writer, ""), ["end", "end; two 0 0"])
        self.assertEqual(shown(writer, "a"), ["end; up 0", "end; up 0; two 0 1"])
        self.assertEqual(shown(writer, "aa"), ["end; up 0; up 1", "end; up 0; up 1; two 0 2"])
        self.assertEqual(shown(writer, "b"), ["None", "None"])
        self.assertEqual(shown("<" + writer + ">", "<>"), ["end", "end; two 0 0"])

    def test_chains_that_add_nothing(self):
        writer = chain_writer(((0, "m"),), ("e",))
        self.assertEqual(shown(writer, "e"), ["end", "end; up 0"])
        self.assertEqual(shown(writer, "t"), ["end; two 0 0", "end; two 0 0; up 1"])
        self.assertEqual(shown(writer, ""), ["None", "None"])

    def test_fields_that_are_not_written(self):
        schema = Schema.read("kind r\nkind k\nmake top r k k\nmake b k k\nmake a k")
        writer = Writer(schema, (("m", "top", LOOK, ("t",)),), "m")
        self.assertEqual(shown(writer, "t"), ["a; top 0 0", "a; b 0; top 0 1"])
        self.assertEqual(shown(writer, "tt"), ["None", "None"])
        rules = (("m", "top", LOOK, ("t", (0, "m"))), ("m", "a", (), ("a",)), ("m", "b", (None,), ("b",)))
        writer = Writer(schema, rules, "m")
        self.assertEqual(shown(writer, "ta"), ["a; top 0 0", "a; b 0; top 0 1"])
        self.assertEqual(shown(writer, "tb"), ["a; b 0; top 1 0", "a; b 0; top 1 1"])
        # By a look, what is not written is not any tree.
        rules = (("m", "top", (None, ("b",)), ("B", (0, "m"))),) + rules
        writer = Writer(schema, rules, "m")
        self.assertEqual(shown(writer, "Ba"), ["a; b 0; top 0 1", "a; b 0; b 1; top 0 2"])
        self.assertEqual(shown(writer, "ta"), ["a; top 0 0", "None"])

    def test_second_trees_by_size(self):
        writer = looking_writer()
        self.assertEqual(shown(writer, "1"), ["one", "None"])
        self.assertEqual(shown(writer, "1*1*1"), ["one; mul 0 0; mul 0 1", "one; mul 0 0; mul 1 0"])
        self.assertEqual(shown(full_writer(), "((1+1)*1)"), ["one; add 0 0; mul 1 0", "None"])

    def test_before_and_after(self):
        writer = chain_writer(("a", (0, "m")), ("aba",), before="aba", after="ba")
        for text, first in (
            ("abaababa", "end"), ("abaaababa", "end; up 0"), ("aba", "None"), ("ababa", "None"), ("abababa", "None"),
            ("xabaababa", "None"), ("abaababax", "None"), ("", "None"), ("abatba", "end; two 0 0"), ("ab", "None"),
        ):
            self.assertEqual(str(first_reading(writer, text)), first)

    def test_fields_in_any_order(self):
        schema = Schema.read("kind r\nkind k\nmake top r k k k\nmake x k\nmake y k\nmake up k k")
        for order in ((0, 1, 2), (2, 1, 0), (1, 2, 0), (2, 0, 1)):
            top = ("m", "top", (None,) * 3, tuple((k, "m") for k in order))
            rules = (top, ("m", "x", (), ("1",)), ("m", "y", (), ("1",)), ("m", "up", (None,), ("1", (0, "m"))))
            writer = Writer(schema, rules, "m")
            self.assertEqual(shown(writer, "111"), ["x; top 0 0 0", "x; y; top 0 0 1"])
            known = [one for one in plain.all_trees(schema, "r", 5) if plain.whole(writer, one) == "1111"]
            self.assertEqual(shown(writer, "1111"), [plain.text(one) for one in known[:2]])


class Limits(unittest.TestCase):
    def test_forty_signs(self):
        writer = looking_writer()
        text = "+".join("1" * 20)
        first = Tree(sums_schema(), "one")
        for _ in range(19):
            first = Tree(sums_schema(), "add", Tree(sums_schema(), "one"), first)
        self.assertTrue(first_reading(writer, text) == first)
        found = second_reading(writer, text)
        self.assertEqual((found.size, writer(found)), (39, text))
        # The last three summands are put together the other way.
        self.assertEqual(str(found[(1,) * 17]), "one; add 0 0; add 1 0")
        self.assertEqual(shown(writer, "(" + text), ["None", "None"])
        chain = chain_writer(("a", (0, "m")), ("b",))
        self.assertEqual(first_reading(chain, "a" * 39 + "b").depth, 40)
        self.assertIs(second_reading(chain, "a" * 39 + "b"), None)

    def test_many_readings(self):
        schema = Schema.read("kind n\nmake end n\nmake two n n n n\nmake three n n n n")
        look = (None,) * 3
        fields = ((0, "m"), (1, "m"), (2, "m"))
        writer = Writer(schema, (("m", "end", (), ("a",)), ("m", "two", look, fields), ("m", "three", look, fields)), "m")
        text = "a" * 39
        self.assertEqual([writer(call(writer, text)) for call in CALLS], [text, text])
        self.assertEqual([call(writer, text).size for call in CALLS], [58, 58])
        self.assertEqual(shown(writer, text + "a"), ["None", "None"])

    def test_too_long(self):
        writer = looking_writer()
        for text in ("1" * 41, "+".join("1" * 21), "\u00e9" * 41, "x" * 5000, "\n" * 41):
            for one in (writer, full_writer(), "1" + writer, long_way()):
                for call in CALLS:
                    with self.assertRaises(TooLong) as caught:
                        call(one, text)
                    self.assertEqual(caught.exception.found, len(text))
        around = "<" * 20 + full_writer() + ">" * 19
        self.assertEqual(shown(around, "<" * 20 + "1" + ">" * 19), ["one", "None"])
        self.assertRaises(TooLong, first_reading, around, "<" * 20 + "1" + ">" * 20)

    def test_other_signs(self):
        for text in ("\t", "\x00", "\u00e9" * 40, "1\ud800", "\U0001d41a", "1+1\r", "1 ", "x" * 40):
            self.assertEqual(shown(looking_writer(), text), ["None", "None"])

    def test_rows(self):
        writer = long_way()
        for many, rest, rows in ((1, "", 7), (1, ".", 8), (2, "", 17), (20, "", 197), (20, ".", 198), (20, ",", 200)):
            text = "a" * many + rest
            found = first_reading(writer, text)
            self.assertEqual((len(found), writer(found)), (rows, text))
            # The second one begins one constructor earlier.
            if rows < 200:
                self.assertEqual(len(second_reading(writer, text)), rows + 1)
            else:
                self.check_rows(second_reading, writer, text)
        for text in ("a" * 20 + ";", "a" * 21, "a" * 40):
            for call in CALLS:
                self.check_rows(call, writer, text)
        # Without a reading there are no rows.
        for text in ("a" * 39 + "b", "a" * 38 + ".,", "a" * 38 + ",a"):
            self.assertEqual(shown(writer, text), ["None", "None"])

    def check_rows(self, call, writer, text):
        with self.assertRaises(TooManyRows) as caught:
            call(writer, text)
        self.assertEqual(caught.exception.limit, 200)

    def test_errors(self):
        for call in CALLS:
            for value in no_strings() + [full_writer().form, Writer]:
                for text in ("1", None, "1" * 41):
                    with self.assertRaises(NotAWriter) as caught:
                        call(value, text)
                    self.assertIs(caught.exception.value, value)
            for value in no_strings():
                with self.assertRaises(InvalidText) as caught:
                    call(full_writer(), value)
                self.assertIs(caught.exception.value, value)
            self.assertTrue(call(text="1", writer=full_writer()) == call(full_writer(), "1"))
            self.assertEqual(call.__module__, readings.__name__)


if __name__ == "__main__":
    unittest.main()
