import random
import unittest

from fivetrees import checker
from fivetrees.certificates import certify_alike, certify_constant, certify_pattern, certify_reading
from fivetrees.checker import holds
from fivetrees.patterns import Pattern
from fivetrees.samples import full_writer, looking_writer, moding_writer, sums_schema
from fivetrees.schemas import Schema
from fivetrees.writers import Writer
from tests import plain_checker
from tests.test_deciding import LOOK, chain_writer
from tests.test_tree_paths import great
from tests.test_trees import CHAIN, chain
from tests.values import Alike, Broken, nested, no_strings
from tests.variants import variants

CHAINS = Schema.read("kind n\nmake e n\nmake u n n")
WORDS = ("alike", "unlike", "constant", "always", "not always", "reading")
# Some texts keep the first pattern, all texts of the chains below the second one.
SOME, ALL = Pattern(2, (0,), (0, "b", 1)), Pattern(3, (0, 2), (0, "a", 2), (0, "b", 1), (2, None, 2))


def chains(up, end, **around):
    """A writer for chains of one kind, in one mode."""
    return Writer(CHAINS, (("m", "e", (), end), ("m", "u", (None,), up)), "m", **around)


def claims():
    """Right claims about small writers, with their certificates, each word once at least."""
    one, other = chains(("ab", (0, "m")), ("a",)), chains(((0, "m"), "ba"), ("a",))
    bare = Writer(CHAINS, (("m", "e", (), ("c",)), ("m", "u", (None,), ((0, "n"),)), ("n", "e", (), ("c",)), ("n", "u", (None,), ("c",))), "m", before="<")
    return [
        certify_alike(one, other), certify_alike(one, chains(("ab", (0, "m")), ("b",))), certify_constant(bare),
        certify_pattern(one, ALL), certify_pattern(bare, ~SOME), certify_pattern(bare, SOME), certify_reading(one, "aba"),
        certify_alike(bare, bare + ""), certify_alike(bare, bare + ">"),
    ]


class Sweeps(unittest.TestCase):
    def check(self, claim, certificate):
        found = holds(claim, certificate)
        self.assertIs(type(found), bool)
        return found

    def test_the_claims(self):
        self.assertEqual({claim[0] for claim, _ in claims()}, set(WORDS))
        for claim, certificate in claims():
            self.assertIs(holds(claim, certificate), True)
            self.assertIs(holds(certificate=certificate, claim=claim), True)
            self.assertIs(plain_checker.holds(claim, certificate), True)
            for word in WORDS:
                if word != claim[0]:
                    self.assertIs(holds((word, *claim[1:]), certificate), False)

    def test_one_part_of_the_certificate_is_another_one(self):
        accepted = 0
        for claim, certificate in claims():
            for one in variants(certificate):
                found = self.check(claim, one)
                self.assertEqual(found, plain_checker.holds(claim, one), (claim, one))
                accepted += found
        self.assertGreater(accepted, 10)

    def test_one_part_of_the_claim_is_another_one(self):
        accepted = 0
        for claim, certificate in claims():
            for one in variants(claim):
                found = self.check(one, certificate)
                self.assertEqual(found, plain_checker.holds(one, certificate), (one, certificate))
                accepted += found
        self.assertGreater(accepted, 10)

    def test_parts_of_larger_certificates(self):
        source = random.Random(41)
        for writer, other in ((looking_writer(), moding_writer()), (full_writer(), full_writer())):
            claim, certificate = certify_alike(writer, other)
            self.assertIs(plain_checker.holds(claim, certificate), True)
            lists, sums = certificate
            for _ in range(60):
                k = source.randrange(len(sums))
                one = source.choice(list(variants(sums[k])))
                changed = (lists, sums[:k] + (one,) + sums[k + 1:])
                self.assertEqual(self.check(claim, changed), plain_checker.holds(claim, changed))
                k = source.randrange(len(lists))
                one = source.choice(list(variants(lists[k])))
                changed = (lists[:k] + (one,) + lists[k + 1:], sums)
                self.assertEqual(self.check(claim, changed), plain_checker.holds(claim, changed))

    def test_values_of_any_kind(self):
        values = no_strings() + ["", "alike", WORDS, nested(29), tuple([Alike()] * 3), (Broken(),) * 3, [1, [2, [3]]], {"a": (1,)}]
        claim, certificate = claims()[0]
        for value in values:
            self.assertIs(holds(value, certificate), False)
            self.assertIs(holds(value, value), False)
            for right, paper in claims():
                self.assertIs(holds(right, value), False)
                self.assertIs(holds((right[0], value, right[2]), paper), False)
                self.assertIs(holds((right[0], right[1], value), paper), False)
                self.assertIs(holds((value, right[1], right[2]), paper), isinstance(value, str) and value == right[0])
                for form in (right[1], right[2]):
                    if isinstance(form, tuple):
                        for k in range(len(form)):
                            wrong = form[:k] + (value,) + form[k + 1:]
                            self.assertIs(type(holds((right[0], wrong, right[2]), paper)), bool)
                            self.assertIs(type(holds((right[0], right[1], wrong), paper)), bool)
            for word in WORDS:
                for both in ((value, value), ((value,), (value,)), (((value, value),), ((value, value, value),))):
                    self.assertIs(holds((word, claim[1], claim[2]), both), False)

    def test_values_that_are_doubled_all_the_way(self):
        # Such a value has more parts than could ever be looked at.
        value = ()
        for _ in range(28):
            value = (value, value)
        row = (value, value, value)
        for right, paper in claims():
            for wrong in (value, row, (row, row)):
                self.assertIs(holds(right, wrong), False)
                self.assertIs(holds((right[0], wrong, right[2]), paper), False)
                self.assertIs(holds((right[0], right[1], wrong), paper), False)

    def test_where_it_is_defined(self):
        self.assertEqual(holds.__module__, checker.__name__)


class Claims(unittest.TestCase):
    def setUp(self):
        self.form = full_writer().form
        self.rows = (("one", ()), ("add", (0, 0)))

    def test_words_and_numbers_of_elements(self):
        right = ("reading", self.form, "(1+1)")
        self.assertIs(holds(right, self.rows), True)
        for wrong in (
            right[:2], right + ((),), ("readings", *right[1:]), ("Reading", *right[1:]), ("", *right[1:]), ("reading ", *right[1:]),
            (b"reading", *right[1:]), (), ("reading",), list(right), ("reading", right[2], right[1]), ("not  always", *right[1:]),
        ):
            self.assertIs(holds(wrong, self.rows), False)

    def test_forms_of_no_writers(self):
        text, rules, start, before, after = self.form
        for form in (
            self.form[:4], self.form + ("",), (text + "\n", *self.form[1:]), (text, rules[:2], start, before, after), full_writer(),
            (text, rules, "sum", before, after), (text, rules, start, "x" * 21, after), (text, rules, start, before, None),
            (text, list(rules), start, before, after), list(self.form), (sums_schema(), rules, start, before, after),
            (text, rules + (("all", "one", (), ("",)),), start, before, after),
        ):
            self.assertIs(holds(("reading", form, "(1+1)"), self.rows), False)
            self.assertIs(holds(("unlike", form, moding_writer().form), self.rows), False)
            self.assertIs(holds(("unlike", moding_writer().form, form), self.rows), False)
        self.assertIs(holds(("unlike", moding_writer().form, self.form), self.rows), True)

    def test_unequal_schemas(self):
        schema = Schema.read("kind num\nmake one num\nmake mul num num num\nmake add num num num")
        other = Writer(schema, full_writer().rules, "all")
        self.assertIs(holds(("unlike", moding_writer().form, other.form), self.rows), False)
        _, certificate = certify_alike(full_writer(), full_writer())
        self.assertIs(holds(("alike", self.form, self.form), certificate), True)
        self.assertIs(holds(("alike", self.form, other.form), certificate), False)
        self.assertIs(holds(("alike", other.form, other.form), certificate), True)

    def test_patterns(self):
        for good, right in (((0, 1), True), ((1, 0), False), ((0, 0, 1), False), ((0, 1, 2), False), ([0, 1], False), ((False, True), False)):
            form = (2, good, ((0, "a", 1),))
            triples = tuple((name, "all", (0, 1)) for name in sums_schema().names)
            self.assertIs(holds(("always", self.form, form), triples), right)
        self.assertIs(holds(("not always", self.form, (2, (1,), ())), self.rows), True)
        for form in ((2, (1,)), (2, (1,), (), ()), (2, (1,), []), (True, (), ()), (6, (), ()), (2, (1,), ((0, "aa", 1),)), (2, (1,), (None,)), Pattern(2, (1,))):
            self.assertIs(holds(("not always", self.form, form), self.rows), False)

    def test_rows(self):
        one = ("one", ())
        claims_of_rows = [("reading", self.form, "(1+1)"), ("unlike", self.form, moding_writer().form), ("not always", self.form, Pattern.without("(").form)]
        for rows in (
            (one, one, ("add", (0, 1))), (one, ("mul", (0, 0)), ("add", (0, 0))), (one, ("add", (0, 0)), one), (), (one, ("add", (1, 1))),
            (one, ("add", (0,))), (one, ("add", (0, 0, 0))), (one, ("add", (0, -1))), (one, ("add", (False, False))), (one, ["add", (0, 0)]),
            [one, ("add", (0, 0))], (one, ("add", [0, 0])), "one; add 0 0", (one, ("two", (0, 0))), (one, ("add", (0, 0), ())), (("one",), ("add", (0, 0))),
        ):
            for claim in claims_of_rows:
                self.assertIs(holds(claim, rows), False)
        for claim in claims_of_rows:
            self.assertIs(holds(claim, self.rows), True)
        # The rows of a later field stand ahead of those of an earlier one.
        add, mul = ("add", (0, 0)), ("mul", (0, 0))
        for rows, right in (((one, add, mul, ("add", (1, 2))), True), ((one, mul, add, ("add", (2, 1))), False), ((one, add, mul, ("add", (2, 1))), False)):
            text = "((1+1)+(1*1))" if right else "((1*1)+(1+1))"
            self.assertIs(holds(("reading", self.form, "((1+1)+(1*1))"), rows), right)
            if not right:
                self.assertIs(holds(("reading", self.form, text), rows), False)

    def test_other_kinds(self):
        schema = Schema.read("kind list\nkind item\nmake nil list\nmake put list item list\nmake dot item")
        rules = (("m", "nil", (), (".",)), ("m", "put", LOOK, ("x",)), ("m", "dot", (), (".",)))
        writer = Writer(schema, rules, "m")
        other = Writer(schema, rules[:1] + (("m", "put", LOOK, ((0, "m"),)), ("m", "dot", (), (".",))), "m")
        self.assertIs(holds(("reading", writer.form, "."), (("nil", ()),)), True)
        self.assertIs(holds(("reading", writer.form, "."), (("dot", ()),)), False)
        self.assertIs(holds(("not always", writer.form, Pattern(1, ()).form), (("dot", ()),)), False)
        self.assertIs(holds(("unlike", writer.form, ("<" + other).form), (("nil", ()),)), True)
        self.assertIs(holds(("unlike", writer.form, ("<" + other).form), (("dot", ()),)), False)

    def test_great_trees(self):
        schema = Schema(*CHAIN)
        short = chain_writer(("u", (0, "m")), ("e",), ("t", (0, "m")))
        long = chain_writer(("u", (0, "m")), ("e",), ((0, "m"), (1, "m")))
        tree = great(schema, 199)
        self.assertIs(holds(("reading", short.form, "t" * 40), tree.rows), False)
        self.assertIs(holds(("reading", short.form, "t" * 199 + "e"), tree.rows), True)
        self.assertIs(holds(("reading", long.form, "e" * 5000), tree.rows), False)
        self.assertIs(holds(("unlike", long.form, long.form), tree.rows), False)
        # The text has 2 ** 199 signs.
        odd = Pattern(3, (1,), (0, "e", 1), (1, "e", 2), (2, "e", 0))
        self.assertEqual(2 ** 199 % 3, 2)
        self.assertIs(holds(("not always", long.form, odd.form), tree.rows), True)
        self.assertIs(holds(("not always", long.form, Pattern(3, (2,), *odd.moves).form), tree.rows), False)
        self.assertIs(holds(("not always", ("e" + long).form, Pattern(3, (2,), *odd.moves).form), tree.rows), True)
        self.assertIs(holds(("not always", (long + "e").form, Pattern(3, (0,), *odd.moves).form), tree.rows), False)
        for rows in (tree.rows + (("up", (199,)),), chain(schema, 199).rows):
            self.assertIs(type(holds(("unlike", short.form, long.form), rows)), bool)

    def test_texts_of_readings(self):
        writer = "<" + full_writer() + ">"
        for text, right in (("<1>", True), ("1", False), ("<1", False), ("<1> ", False), ("", False), ("<2>", False), ("<\u00e9>", False)):
            self.assertIs(holds(("reading", writer.form, text), (("one", ()),)), right)
        for value in no_strings():
            self.assertIs(holds(("reading", writer.form, value), (("one", ()),)), False)


if __name__ == "__main__":
    unittest.main()
