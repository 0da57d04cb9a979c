import itertools
import random
import unittest

from fivetrees import patterns
from fivetrees.errors import InvalidGood, InvalidMoves, InvalidNumber, InvalidString, InvalidText
from fivetrees.patterns import Pattern
from tests.plain_patterns import face, keeps, some_pattern
from tests.test_writers import SIGNS
from tests.values import Alike, Broken, no_numbers, no_signs, no_strings, no_tuples

TURN = tuple((k, "a", (k + 1) % 5) for k in range(5))


class Right(unittest.TestCase):
    def test_properties(self):
        pattern = Pattern(3, (2, 0), (0, "ab", 1), (1, None, 2))
        self.assertEqual((pattern.stands, pattern.good), (3, (0, 2)))
        self.assertEqual(pattern.moves, ((0, "ab", 1), (1, None, 2)))
        self.assertEqual(pattern.form, (3, (0, 2), ((0, "ab", 1), (1, None, 2))))
        self.assertIs(bool(pattern), True)
        for name in ("stands", "good", "moves", "form"):
            self.assertIn(name, vars(Pattern))
            with self.assertRaises(AttributeError):
                setattr(pattern, name, 1)

    def test_the_methods_stand_in_the_class(self):
        for name in ("__init__", "without", "keeps", "face", "__invert__", "__eq__"):
            self.assertIn(name, vars(Pattern))
        self.assertIsInstance(vars(Pattern)["without"], staticmethod)
        self.assertEqual(Pattern.__module__, "fivetrees.patterns")
        for name in ("always", "never", "first_keeping", "first_breaking"):
            self.assertEqual(getattr(patterns, name).__module__, "fivetrees.patterns")

    def test_by_name(self):
        self.assertTrue(Pattern(good=(), stands=1) == Pattern(1, ()))
        self.assertEqual(Pattern(1, ()).keeps(text="a"), False)
        self.assertEqual(Pattern(1, ()).face(text="a"), (0,))
        self.assertTrue(Pattern.without(text="a") == Pattern.without("a"))

    def test_limits(self):
        self.assertEqual(Pattern(1, ()).form, (1, (), ()))
        self.assertEqual(Pattern(5, (4, 3, 2, 1, 0)).good, (0, 1, 2, 3, 4))
        thirty = TURN * 6
        self.assertEqual(len(Pattern(5, (), *thirty).moves), 30)
        every = Pattern(2, (1,), (0, SIGNS, 1), (1, SIGNS[::-1], 0))
        self.assertEqual([every.keeps(text) for text in ("", "\n", "~ ", " ~x")], [False, True, False, True])

    def test_the_order_of_the_good_stands(self):
        for good in itertools.permutations((0, 1, 3, 4), 3):
            self.assertEqual(Pattern(5, good).good, tuple(sorted(good)))
            self.assertTrue(Pattern(5, good) == Pattern(5, tuple(sorted(good))))

    def test_equality(self):
        one = Pattern(2, (1,), (0, "ab", 1))
        self.assertTrue(one == Pattern(2, (1,), (0, "ab", 1)))
        self.assertFalse(one != Pattern(2, (1,), (0, "ab", 1)))
        for other in (
            Pattern(3, (1,), (0, "ab", 1)), Pattern(2, (), (0, "ab", 1)), Pattern(2, (1,), (0, "ba", 1)),
            Pattern(2, (1,)), Pattern(2, (1,), (0, "ab", 1), (0, "ab", 1)), Pattern(2, (1,), (0, None, 1)),
        ):
            self.assertTrue(one != other)
            self.assertFalse(one == other)
        for value in no_strings() + ["", one.form]:
            if not isinstance(value, (Alike, Broken)):
                self.assertFalse(one == value)
                self.assertTrue(one != value)

    def test_invert(self):
        for many in range(1, 6):
            for size in range(many + 1):
                for good in itertools.combinations(range(many), size):
                    pattern = Pattern(many, good, *TURN[:many - 1])
                    other = ~pattern
                    self.assertEqual(other.good, tuple(k for k in range(many) if k not in good))
                    self.assertEqual((other.stands, other.moves), (pattern.stands, pattern.moves))
                    self.assertTrue(~other == pattern)
                    for text in ("", "a", "aa", "aaa"):
                        self.assertIs(other.keeps(text), not pattern.keeps(text))


class Faces(unittest.TestCase):
    def test_the_first_move_counts(self):
        pattern = Pattern(4, (1,), (0, "b", 3), (0, "ab", 1), (0, None, 2), (0, "x", 1))
        self.assertEqual([pattern.face(sign)[0] for sign in "abcx"], [1, 3, 2, 2])
        self.assertEqual([pattern.keeps(sign) for sign in "abcx"], [True, False, False, False])

    def test_it_stays_where_no_move_fits(self):
        pattern = Pattern(2, (1,), (0, "a", 1))
        self.assertEqual(pattern.face("bbb"), (0, 1))
        self.assertEqual(pattern.face("bab"), (1, 1))
        self.assertEqual(Pattern(3, ()).face("abc"), (0, 1, 2))

    def test_the_empty_text(self):
        for many in range(1, 6):
            pattern = Pattern(many, (0,), *[(k, None, 0) for k in range(many)])
            self.assertEqual(pattern.face(""), tuple(range(many)))
            self.assertIs(pattern.keeps(""), True)
            self.assertIs((~pattern).keeps(""), False)

    def test_other_signs(self):
        pattern = Pattern(3, (1,), (0, SIGNS, 2), (0, None, 1), (1, "a", 0))
        for sign in ("\t", "\x00", "\x7f", "\u00e9", "\ud800", "\U0001d41a", "\r"):
            self.assertEqual(pattern.face(sign), (1, 1, 2))
            self.assertEqual(pattern.face(sign + "a"), (0, 0, 2))
            self.assertIs(pattern.keeps(sign * 3), True)
            self.assertEqual(Pattern(2, (), (0, "a", 1)).face(sign), (0, 1))

    def test_by_chance(self):
        source = random.Random(1)
        for _ in range(300):
            form = some_pattern(source, "abc")
            pattern = Pattern(form[0], form[1], *form[2])
            for _ in range(10):
                text = "".join(source.choices("abcd", k=source.randint(0, 12)))
                self.assertEqual(pattern.face(text), face(form, text))
                self.assertIs(pattern.keeps(text), keeps(form, text))

    def test_long_texts(self):
        pattern = Pattern(5, (0,), *TURN)
        self.assertEqual(pattern.face("a" * 4999 + "b"), (4, 0, 1, 2, 3))

    def test_no_strings(self):
        pattern = Pattern(2, (1,), (0, None, 1))
        for value in no_strings():
            for call in (pattern.keeps, pattern.face):
                with self.assertRaises(InvalidText) as caught:
                    call(value)
                self.assertIs(caught.exception.value, value)


class Wrong(unittest.TestCase):
    def refuse(self, error, index, *parts):
        with self.assertRaises(error) as caught:
            Pattern(*parts)
        self.assertEqual(caught.exception.index, index)

    def test_stands(self):
        for value in no_numbers() + [0, 6, -1, 10 ** 39, "5"]:
            for rest in (((0,),), (None,), ((), None)):
                with self.assertRaises(InvalidNumber) as caught:
                    Pattern(value, *rest)
                self.assertIs(caught.exception.value, value)

    def test_good(self):
        for value in no_tuples():
            self.refuse(InvalidGood, None, 2, value, None)
        for index, good in (
            (0, (2,)), (0, (-1,)), (1, (1, 1)), (2, (0, 1, 0)), (1, (0, 2)), (2, (1, 0, 2)), (0, (10 ** 39, 0, 0)),
            (2, (1, 0, 1, 0)), (2, (0, 1, 2, 3, 4, 5, 6)),
        ):
            self.refuse(InvalidGood, index, 2, good, None)
        for value in no_numbers():
            self.refuse(InvalidGood, 0, 2, (value,))
            self.refuse(InvalidGood, 1, 5, (4, value, 4))
        self.refuse(InvalidGood, 5, 5, (0, 1, 2, 3, 4, 0))

    def test_many_moves(self):
        self.refuse(InvalidMoves, None, 5, (), *TURN * 6, TURN[0])
        self.refuse(InvalidMoves, None, 5, (), *[None] * 31)
        self.refuse(InvalidMoves, 0, 5, (), *[None] * 30)
        self.refuse(InvalidMoves, 29, 5, (), *(TURN * 6)[:29], None)

    def test_moves(self):
        right = (0, "a", 1)
        for value in no_strings() + [
            "0a1", (0, "a"), (0, "a", 1, 1), (2, "a", 0), (0, "a", 2), (-1, "a", 0), (0, "a", -1), [0, "a", 1],
            (0, "", 1), (0, "aa", 1), (0, "aba", 1), (True, "a", 0), (0, "a", True), ("0", "a", 1), (None, "a", 1),
            (0, "a", None), (0, ("a",), 1), (0, SIGNS + "a", 1), (0, "a" * 5000, 1), (10 ** 39, "a", 0),
        ]:
            self.refuse(InvalidMoves, 0, 2, (), value)
            self.refuse(InvalidMoves, 2, 2, (), right, right, value, None)
        for value in no_signs():
            if value is not None:
                self.refuse(InvalidMoves, 0, 2, (), (0, value, 1))
        for value in no_numbers():
            self.refuse(InvalidMoves, 0, 2, (), (value, "a", 1))
            self.refuse(InvalidMoves, 0, 2, (), (0, "a", value))

    def test_the_order_of_the_errors(self):
        self.assertRaises(InvalidNumber, Pattern, 6, (7,), None)
        self.refuse(InvalidGood, 0, 5, (7,), None)
        self.refuse(InvalidMoves, 0, 5, (3,), None)


class Without(unittest.TestCase):
    def test_all_texts(self):
        texts = ["".join(text) for many in range(8) for text in itertools.product("ab", repeat=many)]
        for many in range(1, 5):
            for row in itertools.product("abc", repeat=many):
                pattern = Pattern.without("".join(row))
                for text in texts:
                    self.assertIs(pattern.keeps(text), "".join(row) not in text)

    def test_parts_that_repeat(self):
        for part in ("aa", "abab", "aba", "aaaa", "aaba", "abca", "\n\n", " ~ "):
            pattern = Pattern.without(part)
            for text in (part, "x" + part, part + "x", part[:-1], part[1:], part[:-1] * 3, part[0] + part, part + part, "\u00e9" + part):
                self.assertIs(pattern.keeps(text), part not in text, (part, text))

    def test_any_texts(self):
        source = random.Random(2)
        for _ in range(200):
            part = "".join(source.choices("ab*\n", k=source.randint(1, 4)))
            pattern = Pattern.without(part)
            self.assertLessEqual(pattern.stands, 5)
            self.assertTrue(Pattern(pattern.stands, pattern.good, *pattern.moves) == pattern)
            text = "".join(source.choices("ab*\n\u00e9\t", k=30))
            self.assertIs(pattern.keeps(text), part not in text)
            self.assertIs((~pattern).keeps(text), part in text)

    def test_wrong(self):
        for value in no_signs() + ["", "abcde", "a" * 5000, "\u00e9", "ab\t"]:
            with self.assertRaises(InvalidString) as caught:
                Pattern.without(value)
            self.assertIs(caught.exception.value, value)


if __name__ == "__main__":
    unittest.main()
