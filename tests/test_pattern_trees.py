import random
import unittest

from fivetrees.errors import NotAPattern, NotAWriter, TooManyFaces
from fivetrees.patterns import Pattern, always, first_breaking, first_keeping, never
from fivetrees.samples import full_writer, looking_writer, moding_writer
from fivetrees.schemas import Schema
from fivetrees.writers import Writer
from tests import chance, plain, plain_patterns
from tests.test_deciding import chain_writer
from tests.values import no_strings

CALLS = (always, never, first_keeping, first_breaking)
# Three stands in a ring by a, two by b: six faces.
RINGS = ((0, "a", 1), (1, "a", 2), (2, "a", 0), (3, "b", 4), (4, "b", 3))


def sixty_faces(more=False, unused=False):
    """A writer whose trees have sixty faces for RINGS, or sixty-one, where the sixth constructor is written."""
    schema = Schema.read(
        "kind k\nkind j\nmake e k\nmake f k\nmake u k k j\nmake v k k\nmake w k k\nmake only j"
    )
    rules = []
    for mode, below in zip("xyz", "yzx"):
        rules += [
            (mode, "e", (), ()), (mode, "f", (), ("b",)), (mode, "u", (None, None), ("a", (0, below))),
            (mode, "v", (None,), ("b", (0, below))), (mode, "w", (None,), ((0, below),)), (mode, "only", (), ()),
        ]
    if more:
        rules[2] = ("x", "u", (None, None), ("a", (0, "y"), (1, "x")))
    if unused:
        # Behind a rule without looks it never fits, but its pieces are needed.
        rules.append(("x", "u", (None, None), ((1, "x"), (0, "x"))))
    return Writer(schema, tuple(rules), "x")


class Found(unittest.TestCase):
    def check(self, writer, pattern, most):
        """Compare with a look at all trees up to a size; what is found behind them is looked at by itself."""
        form = pattern.form
        known = plain.all_trees(writer.schema, writer.schema.root, most)
        keeping = [plain_patterns.keeps(form, plain.whole(writer, tree)) for tree in known]
        late = 0
        for wanted, call, other in ((True, first_keeping, never), (False, first_breaking, always)):
            found = call(writer, pattern)
            self.assertIs(other(writer, pattern), found is None)
            if wanted in keeping:
                self.assertEqual(plain.plain(found), known[keeping.index(wanted)])
            elif found is not None:
                late += 1
                self.assertGreater(found.size, most)
                self.assertIs(pattern.keeps(writer(found)), wanted)
        return late

    def test_the_samples(self):
        for writer in (looking_writer(), moding_writer(), full_writer(), "(" + full_writer() + "1)"):
            for part in ("1", "+", "(", "((", "))", ")*", ")+", "11", "+*", "1+1+", "*1*1", ")1", "()", "(1)", "x", "1*(1"):
                self.check(writer, Pattern.without(part), 9)
                self.check(writer, ~Pattern.without(part), 9)

    def test_by_chance(self):
        source = random.Random(11)
        late = 0
        for _ in range(250):
            writer = chance.writer(source, chance.schema(source), "ab")
            for _ in range(3):
                form = plain_patterns.some_pattern(source)
                try:
                    late += self.check(writer, Pattern(form[0], form[1], *form[2]), 5)
                except TooManyFaces:
                    self.assertGreater(len(plain_patterns.triples(writer, form)), 60)
        self.assertGreater(late, 0)

    def test_before_and_after(self):
        writer = full_writer()
        end = Pattern(2, (1,), (0, ">", 1), (1, None, 0))
        self.assertIs(always(writer + ">", end), True)
        self.assertIs(never(writer + ">", ~end), True)
        self.assertIs(never(">" + writer, end), True)
        begin = Pattern(3, (1,), (0, "<", 1), (0, None, 2))
        self.assertEqual([always("<" + one, begin) for one in (writer, writer + ">", ">" + writer)], [True, True, True])
        self.assertEqual([always(one, begin) for one in (writer, ">" + writer, writer + "<")], [False] * 3)
        self.assertEqual(str(first_keeping(">" + writer + "<", begin)), "None")

    def test_late_trees(self):
        # The text of a chain of n is n times this string.
        for many in (1, 2, 3, 4):
            writer = chain_writer(("ab", (0, "m")), ())
            counted = Pattern(many + 1, (many,), *[(k, "b", k + 1) for k in range(many)])
            self.assertEqual(str(first_keeping(writer, counted)), "; ".join(["end"] + [f"up {k}" for k in range(many)]))
            self.assertEqual(str(first_breaking(writer, counted)), "end")
        # Both rings are at their begin again behind six signs of each kind, but for the end itself.
        ring = Pattern(5, (4,), (0, "a", 1), (1, "a", 2), (2, "a", 3), (3, "a", 4), (4, "a", 0))
        self.assertEqual(first_keeping(chain_writer(("aaa", (0, "m")), ()), ring).size, 4)
        self.assertEqual(first_keeping(chain_writer(("a", (0, "m")), ("a",)), ring).size, 4)

    def test_great_trees(self):
        # Each tree of a kind needs a greater one below.
        schema = Schema(("a", "b", "c"), (("top", "a", ("b",) * 3), ("mid", "b", ("c",) * 3), ("end", "c", ()), ("up", "c", ("c",))))
        rules = (
            ("m", "top", (None,) * 3, ((2, "m"), (0, "m"))), ("m", "mid", (None,) * 3, ((1, "m"), ".")),
            ("m", "end", (), ()), ("m", "up", (None,), ("a", (0, "m"))),
        )
        writer = Writer(schema, rules, "m")
        found = first_breaking(writer, Pattern.without("aaaa"))
        self.assertEqual(str(found), "end; mid 0 0 0; up 0; up 2; up 3; up 4; mid 0 5 0; top 1 1 6")
        self.assertEqual(str(first_breaking(writer, Pattern.without("a.a"))), "end; up 0; mid 0 1 0; mid 0 0 0; top 2 3 2")
        self.assertEqual(str(first_breaking(writer, Pattern.without(".."))), "end; mid 0 0 0; top 1 1 1")
        self.assertIs(always(writer, Pattern.without("...")), True)

    def test_fields_that_are_not_written(self):
        schema = Schema(("a", "b"), (("pair", "a", ("b", "b")), ("up", "b", ("b",)), ("end", "b", ())))
        looks = (None, ("up",))
        rules = (
            ("m", "pair", looks, ("x", (0, "m"))), ("m", "pair", (None, None), ((0, "m"), "y")),
            ("m", "up", (None,), ("u", (0, "m"))), ("m", "end", (), ()),
        )
        writer = Writer(schema, rules, "m")
        for part, text in (
            ("x", "end; up 0; pair 0 1"), ("xu", "end; up 0; pair 1 1"), ("y", "end; pair 0 0"), ("uy", "end; up 0; pair 1 0"),
            ("yu", "None"), ("xuuu", "end; up 0; up 1; up 2; pair 3 1"),
        ):
            self.assertEqual(str(first_breaking(writer, Pattern.without(part))), text)


class Limits(unittest.TestCase):
    def faces(self, writer, form):
        return len(plain_patterns.triples(writer, form, 70))

    def test_sixty_and_sixty_one(self):
        pattern = Pattern(5, (0, 3), *RINGS)
        for writer in (sixty_faces(), sixty_faces(unused=True)):
            self.assertEqual(self.faces(writer, pattern.form), 60)
            self.assertEqual([call(writer, pattern) for call in (always, never)], [False, False])
            self.assertEqual([str(call(writer, pattern)) for call in (first_keeping, first_breaking)], ["e", "e; only; u 0 1"])
        self.assertEqual(self.faces(sixty_faces(True), pattern.form), 61)
        for call in CALLS:
            with self.assertRaises(TooManyFaces) as caught:
                call(sixty_faces(True), pattern)
            self.assertEqual(caught.exception.limit, 60)

    def test_before_and_after_do_not_count(self):
        pattern = Pattern(5, (0, 3), *RINGS)
        self.assertEqual(str(first_keeping("ab" + sixty_faces() + "a", pattern)), "e; only; u 0 1")
        self.assertRaises(TooManyFaces, always, "ab" + sixty_faces(True) + "a", pattern)

    def test_by_chance(self):
        source = random.Random(12)
        refused = 0
        for _ in range(80):
            writer = chance.writer(source, chance.schema(source), "ab", "xyz")
            form = plain_patterns.some_pattern(source, stands=5)
            found = self.faces(writer, form)
            try:
                always(writer, Pattern(form[0], form[1], *form[2]))
                self.assertLessEqual(found, 60)
            except TooManyFaces:
                refused += 1
                self.assertGreater(found, 60)
        self.assertGreater(refused, 0)
        self.assertLess(refused, 40)

    def test_errors(self):
        pattern = Pattern(1, ())
        for call in CALLS:
            for value in no_strings() + [full_writer().form, Writer]:
                for second in (pattern, None):
                    with self.assertRaises(NotAWriter) as caught:
                        call(value, second)
                    self.assertIs(caught.exception.value, value)
            for value in no_strings() + [pattern.form, Pattern, full_writer()]:
                for writer in (full_writer(), sixty_faces(True)):
                    with self.assertRaises(NotAPattern) as caught:
                        call(writer, value)
                    self.assertIs(caught.exception.value, value)
            self.assertEqual(call(pattern=pattern, writer=full_writer()), call(full_writer(), pattern))


if __name__ == "__main__":
    unittest.main()
