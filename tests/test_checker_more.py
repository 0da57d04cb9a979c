import itertools
import random
import unittest

from fivetrees.certificates import certify_constant, certify_pattern
from fivetrees.checker import holds
from fivetrees.patterns import Pattern
from fivetrees.samples import full_writer, moding_writer
from fivetrees.schemas import Schema
from fivetrees.writers import Writer
from tests import chance, plain_checker, plain_patterns
from tests.test_deciding import LOOK
from tests.test_pattern_trees import RINGS, sixty_faces

# A list of items, of which only those at its begin are written, in the mode n; o is needed but does not occur.
LISTS = Schema.read("kind list\nkind item\nmake nil list\nmake put list item list\nmake dot item\nmake dash item")
RULES = (
    ("m", "nil", (), ("[", "]")), ("m", "put", LOOK, ("[", (0, "n"), "]")), ("n", "dot", (), ()), ("n", "dash", (), ()),
    ("m", "put", LOOK, ((0, "o"),)), ("o", "dot", (), (".",)), ("o", "dash", (), ("-",)),
)
TRIPLES = (("nil", "m", "[]"), ("put", "m", "[]"), ("dot", "n", ""), ("dash", "n", ""))


class Constant(unittest.TestCase):
    def setUp(self):
        self.writer = "<" + Writer(LISTS, RULES, "m")
        self.claim = ("constant", self.writer.form, "<[]")

    def check(self, expected, triples, claim=None):
        self.assertIs(holds(claim or self.claim, triples), expected)
        self.assertIs(plain_checker.holds(claim or self.claim, triples), expected)

    def test_its_own(self):
        claim, triples = certify_constant(self.writer)
        self.assertEqual((claim, sorted(triples)), (self.claim, sorted(TRIPLES)))
        for order in itertools.permutations(TRIPLES):
            self.check(True, order)

    def test_parts(self):
        for k, triple in enumerate(TRIPLES):
            ahead, behind = TRIPLES[:k], TRIPLES[k + 1:]
            self.check(False, ahead + behind)
            self.check(False, ahead + (triple, triple) + behind)
            for wrong in (
                triple[:2], triple + ("",), (triple[1], triple[0], triple[2]), (triple[0], triple[1], triple[2] + "."), list(triple), None,
                (triple[0], triple[1], None), (triple[0], "x", triple[2]), (triple[0], None, triple[2]), ("x", triple[1], triple[2]),
            ):
                self.check(False, ahead + (wrong,) + behind)
        self.check(False, list(TRIPLES))
        self.check(False, ())

    def test_more_than_needed(self):
        # In the mode o something else is written, which is true, and does not matter.
        self.check(True, TRIPLES + (("dot", "o", "."), ("dash", "o", "-")))
        self.check(True, (("dot", "o", "."),) + TRIPLES)
        self.check(False, TRIPLES + (("dot", "o", ""),))
        # These modes are not needed with these kinds.
        for name, mode in (("nil", "n"), ("put", "o"), ("dot", "m"), ("dash", "x")):
            self.check(False, TRIPLES + ((name, mode, ""),))

    def test_claims(self):
        for text in ("<[].", "[]", "<", "", "<[", None, 0, "<[]\n"):
            self.check(False, TRIPLES, (*self.claim[:2], text))
        for writer in (self.writer + ".", "<" + self.writer, self.writer.spelled((("[", "("),)), self.writer.without_rule(1), full_writer()):
            self.check(False, TRIPLES, ("constant", writer.form, "<[]"))
        # The two strings are told apart nowhere.
        other = self.writer.with_rule(0, ("m", "nil", (), ("[]",))).without_rule(1)
        self.check(True, TRIPLES, ("constant", other.form, "<[]"))

    def test_texts_of_fields(self):
        schema = Schema.read("kind a\nkind b\nmake top a b b\nmake x b\nmake y b")

        def writer(look, general, y):
            rules = (
                ("m", "top", (("x",), None), look), ("m", "top", LOOK, general), ("m", "x", (), (".",)), ("m", "y", (), (y,)),
                ("n", "x", (), ()), ("n", "y", (), ()),
            )
            return Writer(schema, rules, "m")

        right = writer(("(", (1, "m"), ".", (0, "m"), ")"), ("(.", (0, "n"), (1, "m"), ".)"), ".")
        triples = (("top", "m", "(...)"), ("x", "m", "."), ("y", "m", "."), ("x", "n", ""), ("y", "n", ""))
        self.check(True, triples, ("constant", right.form, "(...)"))
        for k in range(5):
            # Where the top is x, the rule with the look fits, so in n it is never written.
            self.check(triples[k] == ("x", "n", ""), triples[:k] + triples[k + 1:], ("constant", right.form, "(...)"))
        # Each rule alone would do, but not the other one, and not for each choice of tops.
        for wrong in (
            writer(("(", (1, "m"), (0, "m"), ")"), ("(.", (0, "n"), (1, "m"), ".)"), "."), writer(("(...)",), ("(.", (0, "n"), (1, "n"), ".)"), "."),
            writer(("(", (1, "m"), ".", (0, "m"), ")"), ("(.", (0, "n"), (1, "m"), ".)"), ","),
        ):
            self.check(False, triples, ("constant", wrong.form, "(...)"))

    def test_by_chance(self):
        source = random.Random(43)
        found = 0
        for _ in range(300):
            writer = chance.writer(source, chance.schema(source), "a", ("x", "y"))
            told = certify_constant(writer) if len(writer.schema) < 4 else None
            if told is not None:
                found += 1
                self.check(True, told[1], told[0])
                for k in range(len(told[1])):
                    self.check(False, told[1][:k] + told[1][k + 1:], told[0])
        self.assertGreater(found, 20)


class Always(unittest.TestCase):
    def setUp(self):
        self.writer = moding_writer()
        self.pattern = Pattern.without("+*")
        self.claim, self.triples = certify_pattern(self.writer, self.pattern)

    def check(self, expected, triples, claim=None):
        self.assertIs(holds(claim or self.claim, triples), expected)
        self.assertIs(plain_checker.holds(claim or self.claim, triples), expected)

    def test_its_own(self):
        self.assertEqual(self.claim, ("always", self.writer.form, self.pattern.form))
        self.assertEqual(set(self.triples), plain_patterns.triples(self.writer, self.pattern.form))
        self.check(True, self.triples)
        self.check(True, self.triples[::-1])
        self.check(False, ())

    def test_parts(self):
        for k, triple in enumerate(self.triples):
            name, mode, face = triple
            ahead, behind = self.triples[:k], self.triples[k + 1:]
            self.check(False, ahead + behind)
            self.check(False, ahead + (triple, triple) + behind)
            for wrong in (
                face[:-1], face + (0,), (3,) + face[1:], (-1,) + face[1:], (True,) + face[1:], (None,) + face[1:], list(face), None, ("0",) + face[1:],
                (False, True, 2), (0, 1, 10 ** 39),
            ):
                self.check(False, ahead + ((name, mode, wrong),) + behind)
            for wrong in ((mode, name, face), (name, face, mode), (name, mode), (name, mode, face, 0), [name, mode, face], (name, "x", face), (name, None, face)):
                self.check(False, ahead + (wrong,) + behind)

    def test_more_than_needed(self):
        faces = [face for face in itertools.product(range(3), repeat=3) if ("one", "sum", face) not in self.triples]
        for face in faces:
            for name in ("one", "add", "mul"):
                for mode in ("sum", "part"):
                    if (name, mode, face) not in self.triples:
                        more = self.triples + ((name, mode, face),)
                        self.assertEqual(holds(self.claim, more), plain_checker.holds(self.claim, more))
        # All faces that lead to good stands, whatever is put together of them.
        good = tuple((name, mode, face) for name in ("one", "add", "mul") for mode in ("sum", "part") for face in ((0, 1, 2), (0, 0, 2)))
        self.check(False, self.triples + tuple(triple for triple in good if triple not in self.triples) + (("one", "sum", (2, 2, 2)),))

    def test_triples_of_pairs_that_do_not_occur(self):
        writer = Writer(LISTS, RULES, "m")
        pattern = Pattern(2, (0,), (0, ".-", 1))
        claim, triples = certify_pattern(writer, pattern)
        self.assertEqual({triple[:2] for triple in triples}, {triple[:2] for triple in TRIPLES})
        # They need not be true, for they are not asked for.
        self.check(True, triples + (("dot", "o", (1, 0)), ("dot", "o", (0, 0)), ("dash", "o", (1, 1))), claim)
        self.check(False, triples + (("dot", "m", (1, 0)),), claim)
        self.check(False, triples + (("nil", "o", (0, 1)),), claim)
        wrong = ("always", writer.without_rule(1).form, pattern.form)
        self.check(False, triples, wrong)

    def test_sixty_triples(self):
        pattern = Pattern(5, (0, 1, 2, 3, 4), *RINGS)
        claim, triples = certify_pattern(sixty_faces(), pattern)
        self.assertEqual((claim[0], len(triples)), ("always", 60))
        self.assertIs(holds(claim, triples), True)
        claim = ("always", sixty_faces(unused=True).form, pattern.form)
        self.assertIs(holds(claim, triples), True)
        self.assertIs(holds(claim, triples + (("only", "x", (0, 1, 2, 3, 4)),)), False)
        self.assertIs(holds(claim, triples[1:] + (("only", "x", (0, 1, 2, 3, 4)),)), False)
        few = Pattern(1, (0,))
        claim, some = certify_pattern(sixty_faces(unused=True), few)
        self.assertIs(holds(claim, some + (("only", "x", (0,)),)), True)
        self.assertIs(holds(claim, some + (("only", "x", (0,)),) * 2), False)

    def test_good_stands_and_the_other_ones(self):
        for claim, triples in (certify_pattern(self.writer, self.pattern), certify_pattern("1" + self.writer, Pattern.without("*+"))):
            stands, good, moves = claim[2]
            for many in range(len(good)):
                for fewer in itertools.combinations(good, many):
                    wrong = (claim[0], claim[1], (stands, fewer, moves))
                    found = holds(wrong, triples)
                    self.assertEqual(found, plain_checker.holds(wrong, triples))
            text, rules, start, before, after = claim[1]
            for around in (("+*", ""), ("", "*+*+"), (before, "+*+")):
                wrong = (claim[0], (text, rules, start, *around), claim[2])
                self.assertEqual(holds(wrong, triples), plain_checker.holds(wrong, triples))
        self.check(False, self.triples, (claim[0], (text, rules, start, "+*", ""), self.pattern.form))
        self.check(False, self.triples, (claim[0], (text, rules, start, "", "+*"), self.pattern.form))
        self.check(True, self.triples, (claim[0], (text, rules, start, "*+", "+"), self.pattern.form))

    def test_by_chance(self):
        source = random.Random(44)
        counts = {True: 0, False: 0}
        for _ in range(150):
            writer = chance.writer(source, chance.schema(source), "ab", ("x", "y"))
            form = plain_patterns.some_pattern(source, stands=2)
            claim, certificate = certify_pattern(writer, Pattern(form[0], form[1], *form[2]))
            counts[claim[0] == "always"] += 1
            self.assertIs(holds(claim, certificate), True)
            self.assertIs(plain_checker.holds(claim, certificate), True)
            if claim[0] == "always":
                for k in range(len(certificate)):
                    self.check(False, certificate[:k] + certificate[k + 1:], claim)
        self.assertGreater(min(counts.values()), 30)


if __name__ == "__main__":
    unittest.main()
