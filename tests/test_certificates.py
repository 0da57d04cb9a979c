import random
import unittest

from fivetrees import certificates
from fivetrees.certificates import certify_alike, certify_constant, certify_pattern, certify_reading
from fivetrees.checker import holds
from fivetrees.deciding import constant_text, first_unlike
from fivetrees.errors import (
    InvalidText, NotAPattern, NotAWriter, OtherSchema, TooLong, TooManyFaces, TooManyJoins, TooManyRows,
)
from fivetrees.keeping import Keeping
from fivetrees.patterns import Pattern, always, first_breaking
from fivetrees.readings import first_reading
from fivetrees.samples import full_writer, looking_writer, moding_writer
from fivetrees.schemas import Schema
from fivetrees.writers import Writer
from tests import chance, plain, plain_checker, plain_patterns
from tests.examples import BOUGHT
from tests.limits_of_joins import great_first_tree, one_more, one_more_beside_itself, two_thousand_empty
from tests.test_deciding import in_modes
from tests.test_pattern_trees import RINGS, sixty_faces
from tests.test_readings import long_way
from tests.test_writing import BOUGHT_RULES
from tests.values import no_strings


class Pairs(unittest.TestCase):
    def accept(self, told, word, *rest):
        """The claim has this word and goes on like this, and the checker accepts its certificate."""
        claim, certificate = told
        self.assertEqual((type(told), len(told), type(claim)), (tuple, 2, tuple))
        self.assertEqual(claim, (word, *rest))
        self.assertIs(holds(claim, certificate), True)
        return certificate

    def test_alike(self):
        looking, moding, full = looking_writer(), moding_writer(), full_writer()
        for one, other in ((looking, moding), (moding, looking), (full, in_modes(full, ("a", "b"))), (full, full)):
            lists, sums = self.accept(certify_alike(one, other), "alike", one.form, other.form)
            keeping = Keeping(one, other)
            self.assertEqual({state: listed for state, listed in lists}, {
                state: tuple(tree.rows for tree in keeping.kept(state)) for state in keeping.states
            })
            for state, choice, numbers in sums:
                self.assertEqual(len(numbers), len(keeping.kept(state)))
        for one, other in ((looking, full), (full, moding), ("<" + full, full), (full + ">", full + "<")):
            rows = self.accept(certify_alike(writer=one, other=other), "unlike", one.form, other.form)
            self.assertEqual(rows, first_unlike(one, other).rows)

    def test_constant(self):
        schema = Schema(*BOUGHT)
        rules = (("m", "nil", (), ("[]",)), ("m", "put", (None, None), ("[", (0, "n"), "]")), ("n", "dot", (), ()))
        writer = "<" + Writer(schema, rules, "m")
        triples = self.accept(certify_constant(writer=writer), "constant", writer.form, "<[]")
        self.assertEqual(sorted(triples), [("dot", "n", ""), ("nil", "m", "[]"), ("put", "m", "[]")])
        for one in (full_writer(), moding_writer(), Writer(schema, BOUGHT_RULES, "m")):
            self.assertIs(certify_constant(one), None)

    def test_patterns(self):
        for writer in (looking_writer(), moding_writer(), full_writer()):
            for pattern in (Pattern.without("+*"), Pattern.without("(("), ~Pattern.without("1"), Pattern(1, ()), Pattern(1, (0,))):
                told = certify_pattern(writer, pattern)
                if always(writer, pattern):
                    self.accept(told, "always", writer.form, pattern.form)
                else:
                    self.assertEqual(self.accept(told, "not always", writer.form, pattern.form), first_breaking(writer, pattern).rows)
        self.assertEqual(certify_pattern(pattern=Pattern(1, ()), writer=full_writer())[1], (("one", ()),))

    def test_readings(self):
        for writer, text in ((looking_writer(), "1+1+1"), (moding_writer(), "(1+1)*1"), ("<" + full_writer(), "<(1+1)")):
            rows = self.accept(certify_reading(writer, text), "reading", writer.form, text)
            self.assertEqual(rows, first_reading(writer, text).rows)
        for text in ("", "1+", "1+1)", "\u00e9"):
            self.assertIs(certify_reading(text=text, writer=full_writer()), None)

    def test_by_chance(self):
        source = random.Random(51)
        words = {}
        for _ in range(250):
            schema = chance.schema(source)
            writer = chance.writer(source, schema, source.choice(["a", "ab"]))
            other = source.choice([chance.writer(source, schema, "ab"), writer, writer + "b", "a" + writer])
            form = plain_patterns.some_pattern(source)
            for told in self.told(writer, other, Pattern(form[0], form[1], *form[2]), source.choice("ab")):
                if told is None:
                    words[None] = words.get(None, 0) + 1
                    continue
                claim, certificate = told
                words[claim[0]] = words.get(claim[0], 0) + 1
                self.assertIs(holds(claim, certificate), True)
                if claim[0] != "alike" or len(certificate[1]) < 100:
                    self.assertIs(plain_checker.holds(claim, certificate), True)
                self.check_others(claim, certificate)
        for word in ("alike", "unlike", "constant", "always", "not always", "reading", None):
            self.assertGreater(words[word], 15, word)

    def told(self, writer, other, pattern, text):
        found = []
        for call, arguments in (
            (certify_alike, (writer, other)), (certify_constant, (writer,)), (certify_pattern, (writer, pattern)), (certify_reading, (writer, text)),
        ):
            try:
                found.append(call(*arguments))
            except (TooManyJoins, TooManyFaces):
                pass
        return found

    def check_others(self, claim, certificate):
        """The claim that excludes this one is not accepted by the same certificate."""
        others = {"alike": "unlike", "always": "not always"}
        others.update({one: word for word, one in others.items()})
        if claim[0] in others:
            self.assertIs(holds((others[claim[0]], *claim[1:]), certificate), False)
        else:
            self.assertIs(holds((*claim[:2], claim[2] + "a"), certificate), False)

    def test_certificates_at_the_limit_of_joins(self):
        one, other = two_thousand_empty()
        told = certify_alike(one, other)
        lists, sums = self.accept(told, "alike", one.form, other.form)
        self.assertEqual(len(sums), 2000)
        self.assertIs(holds(told[0], (lists, sums[:-1])), False)

    def test_great_first_trees(self):
        writer = great_first_tree(4980, before="x" * 20)
        self.accept(certify_alike(writer, writer), "alike", writer.form, writer.form)
        told = certify_constant(writer)
        self.assertEqual(len(told[0][2]), 5000)
        self.accept(told, "constant", writer.form, constant_text(writer))

    def test_where_they_are_defined(self):
        for call in (certify_alike, certify_constant, certify_pattern, certify_reading):
            self.assertEqual(call.__module__, certificates.__name__)


class Errors(unittest.TestCase):
    def test_writers(self):
        right = full_writer()
        for value in no_strings() + [right.form, Writer]:
            for call in (
                lambda: certify_alike(value, None), lambda: certify_alike(right, value), lambda: certify_constant(value),
                lambda: certify_pattern(value, None), lambda: certify_reading(value, None),
            ):
                with self.assertRaises(NotAWriter) as caught:
                    call()
                self.assertIs(caught.exception.value, value)

    def test_others(self):
        other = Writer(Schema(*BOUGHT), BOUGHT_RULES, "m")
        self.assertRaises(OtherSchema, certify_alike, full_writer(), other)
        for value in no_strings():
            with self.assertRaises(NotAPattern) as caught:
                certify_pattern(full_writer(), value)
            self.assertIs(caught.exception.value, value)
            with self.assertRaises(InvalidText) as caught:
                certify_reading(full_writer(), value)
            self.assertIs(caught.exception.value, value)

    def test_limits(self):
        for call, error, number in (
            (lambda: certify_alike(*one_more()), TooManyJoins, 2000), (lambda: certify_constant(one_more_beside_itself()), TooManyJoins, 2000),
            (lambda: certify_constant(great_first_tree(4981, before="x" * 20)), TooLong, 5001),
            (lambda: certify_pattern(sixty_faces(True), Pattern(5, (0,), *RINGS)), TooManyFaces, 60),
            (lambda: certify_reading(full_writer(), "1" * 41), TooLong, 41), (lambda: certify_reading(long_way(), "a" * 21), TooManyRows, 200),
        ):
            with self.assertRaises(error) as caught:
                call()
            self.assertEqual(caught.exception.found if error is TooLong else caught.exception.limit, number)

    def test_what_is_certified_is_true(self):
        writer = looking_writer()
        for one in plain.all_trees(writer.schema, "num", 7):
            claim, rows = certify_reading(writer, plain.whole(writer, one))
            self.assertEqual(plain.whole(writer, plain_checker.tree(writer.schema, rows)), claim[2])


if __name__ == "__main__":
    unittest.main()
