import re
import unittest

from fivetrees.errors import EmptyKind, InvalidText
from fivetrees.schemas import Schema
from tests.examples import EXAMPLES, MOST, has_tree
from tests.values import no_strings

SUMS = "kind num\nmake one num\nmake add num num num\nmake mul num num num"
LISTS = "kind list\nkind item\nmake nil list\nmake put list item list\nmake dot item"
NAME = "[a-z][a-z0-9]{0,7}"
FORM = re.compile(f"(kind {NAME}\n){{1,4}}make {NAME}( {NAME}){{1,4}}(\nmake {NAME}( {NAME}){{1,4}}){{0,5}}")


def expected(text):
    """What reading a text must give: the parts of the schema, the empty kind, or None for no such text."""
    if not FORM.fullmatch(text):
        return None
    kinds = re.findall("kind ([a-z0-9]+)\n", text)
    makes = [row.split() for row in re.findall("make ([a-z0-9 ]+)", text)]
    names = [row[0] for row in makes]
    if len(set(kinds)) < len(kinds) or len(set(names)) < len(names):
        return None
    if any(kind not in kinds for row in makes for kind in row[1:]):
        return None
    constructors = tuple((row[0], row[1], tuple(row[2:])) for row in makes)
    for kind in kinds:
        if not has_tree(kind, constructors):
            return kind
    return tuple(kinds), constructors


def bent(text):
    """The text bent at one place: a sign left out, put in or exchanged."""
    signs = "akm09z A\n\t\r\x00.\u00e9\u2028"
    for place in range(len(text) + 1):
        if place < len(text):
            yield text[:place] + text[place + 1:]
        for sign in signs:
            yield text[:place] + sign + text[place:]
            if place < len(text):
                yield text[:place] + sign + text[place + 1:]


def bent_lines(text):
    """The text with two lines exchanged, one doubled, or one left out."""
    lines = text.split("\n")
    for k, line in enumerate(lines):
        yield "\n".join(lines[:k] + lines[k + 1:])
        yield "\n".join(lines[:k] + [""] + lines[k + 1:])
        for m in range(len(lines) + 1):
            yield "\n".join(lines[:m] + [line] + lines[m:])
        for m in range(k):
            other = list(lines)
            other[k], other[m] = other[m], other[k]
            yield "\n".join(other)


class Read(unittest.TestCase):
    def check(self, text, found):
        if found is None:
            self.refuse(text)
        elif isinstance(found, str):
            with self.assertRaises(EmptyKind) as caught:
                Schema.read(text)
            self.assertEqual(caught.exception.kind, found)
        else:
            schema = Schema.read(text)
            self.assertEqual((schema.kinds, schema.constructors), found)
            self.assertEqual(str(schema), text)

    def refuse(self, text):
        with self.assertRaises(InvalidText) as caught:
            Schema.read(text)
        self.assertIs(caught.exception.value, text)

    def test_texts_of_schemas(self):
        for example in EXAMPLES:
            schema = Schema(*example)
            again = Schema.read(str(schema))
            self.assertTrue(again == schema)
            self.assertEqual((again.kinds, again.constructors), example)
            self.assertEqual(str(again), str(schema))
            self.assertTrue(Schema.read(text=str(schema)) == schema)
            self.assertTrue(Schema.read(str(schema)) == again)

    def test_sums(self):
        schema = Schema.read(SUMS)
        self.assertEqual(schema.kinds, ("num",))
        self.assertEqual(
            schema.constructors,
            (("one", "num", ()), ("add", "num", ("num", "num")), ("mul", "num", ("num", "num"))),
        )

    def test_read_off_an_object(self):
        self.assertEqual(str(Schema(*MOST).read(SUMS)), SUMS)

    def test_no_string(self):
        for value in no_strings() + [("kind a", "make b a"), SUMS.encode(), Schema.read(SUMS)]:
            self.refuse(value)
            with self.assertRaises(InvalidText) as caught:
                Schema.read(text=value)
            self.assertIs(caught.exception.value, value)

    def test_bent_at_one_sign(self):
        for text in (SUMS, LISTS, str(Schema(*MOST)), "kind a\nmake b a"):
            for other in bent(text):
                self.check(other, expected(other))

    def test_bent_at_one_line(self):
        for text in (SUMS, LISTS, str(Schema(*MOST)), "kind a\nmake b a"):
            for other in bent_lines(text):
                self.check(other, expected(other))

    def test_bent_texts_of_each_sort_are_met(self):
        found = [expected(other) for text in (SUMS, LISTS) for other in [*bent(text), *bent_lines(text)]]
        self.assertTrue(any(one is None for one in found))
        self.assertTrue(any(isinstance(one, str) for one in found))
        self.assertTrue(any(isinstance(one, tuple) for one in found))

    def test_blanks_and_newlines(self):
        for text in (
            "", " ", "\n", "\n\n", SUMS + "\n", "\n" + SUMS, SUMS + " ", " " + SUMS, SUMS.replace("\n", "\n\n"),
            SUMS.replace("\n", "\r\n"), SUMS.replace("\n", "\r"), SUMS.replace("\n", " \n"),
            SUMS.replace("\n", "\n "), SUMS.replace(" ", "  "), SUMS.replace(" ", "\t"), SUMS.replace("\n", "; "),
            SUMS.replace("\n", "\u2028"), SUMS.replace("\n", "\x0b"), SUMS.replace(" ", "\u00a0"),
        ):
            self.refuse(text)

    def test_words(self):
        for text in (
            "kind", "make", "kind num", "make one num", "kind\nmake", "kind num\nmake", "kind num\nmake one",
            "kind num num\nmake one num", "kind num\nmake one num\nkind two\nmake leaf two",
            "make one num\nkind num", "Kind num\nmake one num", "kind num\nMake one num", "kind num\nmake one two",
            "kind num\nmake one num two", "kind num\nmake one num num num num num", "kind Num\nmake one Num",
            "kind num\nmake One num", "kind num\nkind num\nmake one num", "kind num\nmake one num\nmake one num",
            "kind num\nmake one num\nmore", "num\none num", SUMS + SUMS, SUMS + "\n" + SUMS,
        ):
            self.refuse(text)

    def test_numbers_of_lines(self):
        kinds = [f"kind k{k}" for k in range(5)]
        makes = [f"make c{k} k{k}" for k in range(5)] + [f"make d{k} k0" for k in range(5)]
        for many in range(1, 5):
            text = "\n".join(kinds[:many] + makes[:many])
            self.assertEqual(str(Schema.read(text)), text)
        self.refuse("\n".join(kinds[:5] + makes[:5]))
        six = makes[:1] + makes[5:10]
        text = "\n".join(kinds[:1] + six)
        self.assertEqual(len(Schema.read(text)), 6)
        self.refuse("\n".join(kinds[:1] + six + ["make e k0"]))
        self.refuse("\n".join(kinds[:1]))
        self.refuse("\n".join(makes[:1]))

    def test_long_texts(self):
        self.refuse("kind num\n" * 555)
        self.refuse("kind num" + "\nmake one num" * 384)
        self.refuse("kind num\nmake one num" + " num" * 1000)
        self.refuse("a" * 5000)
        self.refuse(" " * 5000)
        self.refuse("\n" * 5000)

    def test_empty_kinds(self):
        self.check("kind num\nmake loop num num", "num")
        self.check("kind a\nkind b\nmake leaf a", "b")
        self.check("kind a\nkind b\nmake leaf b", "a")
        self.check("kind a\nkind b\nkind c\nmake leaf a\nmake two c b\nmake one b c a", "b")

    def test_empty_kinds_behind_invalid_texts(self):
        loop = "kind num\nmake loop num num"
        for text in (
            loop + "\n", loop + "\nmake loop num num", loop + " two", loop + "\nkind b", loop + " num num num",
            "kind num\n" + loop, loop.replace("loop", "Loop"),
        ):
            self.refuse(text)


if __name__ == "__main__":
    unittest.main()
