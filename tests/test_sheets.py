import random
import unittest

from fivetrees import sheets
from fivetrees.errors import (
    InvalidPath, InvalidTree, NotATree, NotAWriter, NothingToUndo, OtherSchema, TooLong, TooManyRows,
)
from fivetrees.samples import full_writer, looking_writer, moding_writer, sums_schema
from fivetrees.schemas import Schema
from fivetrees.sheets import Sheet, set_tree
from fivetrees.trees import Tree
from fivetrees.writers import Writer
from tests import plain
from tests.examples import BOUGHT
from tests.test_deciding import chain_writer
from tests.test_tree_paths import great
from tests.test_trees import CHAIN, chain
from tests.test_writing import BOUGHT_RULES
from tests.values import no_numbers, no_strings, no_tuples


def tree_of(text):
    return Tree.read(sums_schema(), text)


def texts_sheet(text):
    """A sheet with the text: each constructor of the chain writes one sign ahead of the next one."""
    return Sheet(signs_writer(), signs_tree(text))


def signs_tree(text):
    tree = Tree(signs_writer().schema, "end")
    for sign in reversed(text):
        tree = Tree(tree.schema, sign, tree)
    return tree


def signs_writer():
    schema = Schema(("n",), (("end", "n", ()), *[(sign, "n", ("n",)) for sign in "abc"]))
    return Writer(schema, (("m", "end", (), ()), *[("m", sign, (None,), (sign, (0, "m"))) for sign in "abc"]), "m")


def plain_patch(old, new):
    """The longest part that both texts begin with, then the longest one that both end with behind it."""
    place = max(k for k in range(min(len(old), len(new)) + 1) if old[:k] == new[:k])
    old, new = old[place:], new[place:]
    last = max(k for k in range(min(len(old), len(new)) + 1) if old[len(old) - k:] == new[len(new) - k:])
    return place, len(old) - last, new[:len(new) - last]


class Changes(unittest.TestCase):
    def check(self, sheet, tree, many):
        self.assertTrue(sheet.tree == tree)
        self.assertEqual(sheet.text, sheet.writer(tree))
        self.assertEqual(len(sheet), many)
        self.assertIs(bool(sheet), many > 0)

    def test_created(self):
        for writer in (looking_writer(), moding_writer(), "<" + full_writer() + ">"):
            tree = tree_of("one; add 0 0; mul 1 0")
            sheet = Sheet(writer, tree)
            self.check(sheet, tree, 0)
            self.assertTrue(sheet.writer == writer)
            self.assertTrue(Sheet(tree=tree, writer=writer) != sheet)
            self.assertTrue(sheet == sheet)
            self.assertFalse(sheet == tree)
            self.assertFalse(sheet == sheet.text)
            for name in ("writer", "text"):
                with self.assertRaises(AttributeError):
                    setattr(sheet, name, 1)

    def test_the_methods_stand_in_the_class(self):
        for name in ("__init__", "__getitem__", "__setitem__", "writer", "text", "undo", "__len__"):
            self.assertIn(name, vars(Sheet))
        self.assertIn("tree", vars(Sheet(full_writer(), tree_of("one"))))
        self.assertEqual({Sheet.__module__, set_tree.__module__}, {sheets.__name__})
        self.assertRaises(TypeError, list, Sheet(full_writer(), tree_of("one")))

    def test_every_path(self):
        others = plain.all_trees(sums_schema(), "num", 5)
        for one in plain.all_trees(sums_schema(), "num", 7)[::7]:
            tree = plain.made(sums_schema(), one)
            for path in plain.paths(one):
                for other in others:
                    sheet = Sheet(looking_writer(), tree)
                    self.assertTrue(sheet[path] == tree[path])
                    sheet[path] = plain.made(sums_schema(), other)
                    self.check(sheet, plain.made(sums_schema(), plain.put(one, path, other)), 1)
                    sheet.undo()
                    self.check(sheet, tree, 0)

    def test_trees_of_other_kinds_below(self):
        schema = Schema(*BOUGHT)
        sheet = Sheet(Writer(schema, BOUGHT_RULES, "m"), Tree.read(schema, "dot; nil; put 0 1"))
        sheet[(1,)] = sheet.tree
        self.assertEqual(sheet.text, ".:.:[]")
        self.assertEqual(set_tree(sheet, (1, 0), Tree(schema, "dot")), (6, 0, ""))
        self.assertEqual(str(sheet[(1, 0)]), "dot")
        self.assertEqual(len(sheet), 2)

    def test_the_same_tree_counts(self):
        tree = tree_of("one; add 0 0")
        sheet = Sheet(full_writer(), tree)
        for many in range(1, 4):
            sheet[()] = tree
            self.check(sheet, tree, many)
            self.assertEqual(set_tree(sheet, (0,), tree[(0,)]), (5, 0, ""))
            sheet.undo()

    def test_undo_over_many_changes(self):
        source = random.Random(31)
        others = [plain.made(sums_schema(), one) for one in plain.all_trees(sums_schema(), "num", 5)]
        sheet = Sheet(moding_writer(), tree_of("one"))
        past = [sheet.tree]
        for step in range(400):
            if source.random() < (0.3 if step < 250 else 0.9) and len(past) > 1:
                past.pop()
                self.assertIs(sheet.undo(), None)
            else:
                path = source.choice([path for path in plain.paths(plain.plain(past[-1])) if len(path) < 6])
                past.append(past[-1].put(path, source.choice(others)))
                set_tree(sheet, path, past[-1][path])
            self.check(sheet, past[-1], len(past) - 1)
        while len(sheet):
            sheet.undo()
        self.check(sheet, tree_of("one"), 0)

    def test_nothing_to_undo(self):
        sheet = Sheet(full_writer(), tree_of("one"))
        self.assertRaises(NothingToUndo, sheet.undo)
        sheet[()] = tree_of("one; add 0 0")
        sheet.undo()
        for _ in range(2):
            self.assertRaises(NothingToUndo, sheet.undo)
            self.check(sheet, tree_of("one"), 0)

    def test_two_sheets_with_the_same_tree(self):
        tree = tree_of("one; add 0 0")
        writer = full_writer()
        one, other = Sheet(writer, tree), Sheet(writer, tree)
        one[(0,)] = tree
        self.check(other, tree, 0)
        self.assertEqual((one.text, other.text), ("((1+1)+1)", "(1+1)"))
        other[()] = one.tree
        one.undo()
        self.check(one, tree, 0)
        self.assertEqual(other.text, "((1+1)+1)")
        self.assertEqual(str(tree), "one; add 0 0")

    def test_great_trees(self):
        schema = Schema(*CHAIN)
        writer = chain_writer(("-", (0, "m")), ("e",), ("two",))
        sheet = Sheet(writer, great(schema, 199))
        self.assertEqual(sheet.text, "two")
        self.assertEqual(set_tree(sheet, (1,) * 199, Tree(schema, "end")), (3, 0, ""))
        self.assertEqual(set_tree(sheet, (), chain(schema, 199)), (0, 3, "-" * 199 + "e"))
        self.assertEqual(len(sheet[(0,) * 100]), 100)


class Patches(unittest.TestCase):
    def test_equal_texts(self):
        for text in ("", "a", "aa", "abc"):
            self.assertEqual(set_tree(texts_sheet(text), (), signs_tree(text)), (len(text), 0, ""))

    def test_doubled_signs(self):
        for old, new, patch in (
            ("aa", "aaa", (2, 0, "a")), ("aaa", "aa", (2, 1, "")), ("aba", "ababa", (3, 0, "ba")), ("ababa", "aba", (3, 2, "")),
            ("aabaa", "aaaa", (2, 1, "")), ("abab", "ab", (2, 2, "")), ("", "a", (0, 0, "a")), ("a", "", (0, 1, "")),
            ("aa", "aba", (1, 0, "b")), ("abcb", "abb", (2, 1, "")), ("cab", "ab", (0, 1, "")), ("ab", "ba", (0, 2, "ba")),
            ("abca", "acba", (1, 2, "cb")), ("abc", "cba", (0, 3, "cba")), ("baab", "caac", (0, 4, "caac")),
        ):
            sheet = texts_sheet(old)
            self.assertEqual(set_tree(sheet, (), signs_tree(new)), patch)
            self.assertEqual((sheet.text, len(sheet)), (new, 1))

    def test_all_short_texts(self):
        texts = [""]
        for _ in range(4):
            texts += [text + sign for text in texts for sign in "ab"]
        texts = sorted(set(texts))
        for old in texts:
            sheet = texts_sheet(old)
            for new in texts:
                patch = set_tree(sheet, (), signs_tree(new))
                self.assertEqual(patch, plain_patch(old, new))
                place, count, text = patch
                self.assertEqual(old[:place] + text + old[place + count:], new)
                self.assertEqual([type(part) for part in patch], [int, int, str])
                sheet.undo()

    def test_by_name(self):
        sheet = texts_sheet("a")
        self.assertEqual(set_tree(other=signs_tree("b"), path=(), sheet=sheet), (0, 1, "b"))

    def test_the_last_part_of_long_texts(self):
        sheet = texts_sheet("a" * 100 + "b" + "a" * 98)
        self.assertEqual(set_tree(sheet, (0,) * 100, signs_tree("c" + "a" * 98)), (100, 1, "c"))
        self.assertEqual(set_tree(sheet, (0,) * 100, signs_tree("a" * 98)), (100, 1, ""))


class Errors(unittest.TestCase):
    def setUp(self):
        self.tree = tree_of("one; add 0 0")
        self.sheet = Sheet(looking_writer(), self.tree)
        self.sheet[(0,)] = self.tree

    def refuse(self, error, sheet, path, other):
        """Both ways of a change raise the error, and nothing has changed."""
        before = (sheet.tree, sheet.text, len(sheet))
        with self.assertRaises(error) as caught:
            sheet[path] = other
        with self.assertRaises(error) as again:
            set_tree(sheet, path, other)
        self.assertTrue((sheet.tree, sheet.text, len(sheet)) == before)
        self.assertEqual(vars(caught.exception).keys(), vars(again.exception).keys())
        return caught.exception

    def test_paths(self):
        for path in no_tuples() + [(2,), (-1,), (0, 0, 0), (1, 0), "0", [0], 0]:
            for other in (self.tree, None):
                self.assertIs(self.refuse(InvalidPath, self.sheet, path, other).value, path)
            with self.assertRaises(InvalidPath):
                self.sheet[path]
        for value in no_numbers():
            self.refuse(InvalidPath, self.sheet, (value,), self.tree)
        self.assertEqual(self.sheet.text, "1+1+1")

    def test_trees(self):
        other = Schema(("num",), (("one", "num", ()),))
        for value in no_strings() + ["one", Tree(other, "one"), sums_schema(), self.sheet]:
            for path in ((), (0,), (0, 1)):
                self.assertIs(self.refuse(InvalidTree, self.sheet, path, value).value, value)
        schema = Schema(*BOUGHT)
        sheet = Sheet(Writer(schema, BOUGHT_RULES, "m"), Tree.read(schema, "dot; nil; put 0 1"))
        self.refuse(InvalidTree, sheet, (), Tree(schema, "dot"))
        self.refuse(InvalidTree, sheet, (0,), Tree(schema, "nil"))

    def test_rows(self):
        schema = Schema(*CHAIN)
        sheet = Sheet(chain_writer(("-", (0, "m")), ("e",)), chain(schema, 199))
        self.assertEqual(self.refuse(TooManyRows, sheet, (0,), sheet.tree).limit, 200)
        sheet[(0,) * 5] = sheet.tree[(0,) * 5]
        self.assertEqual(self.refuse(TooManyRows, sheet, (0,) * 5, sheet.tree[(0,) * 4]).limit, 200)

    def test_long_texts(self):
        schema = Schema(*CHAIN)
        writer = chain_writer(("u" * 20, (0, "m"), "v" * 20), ("e" * 20,), ((0, "m"), (1, "m")), before="b" * 20, after="a" * 20)
        tree = chain(schema, 123)
        sheet = Sheet(writer, tree)
        self.assertEqual(len(sheet.text), 4980)
        exception = self.refuse(TooLong, sheet, (), chain(schema, 124))
        self.assertEqual(exception.found, 5020)
        double = Tree(schema, "two", chain(schema, 62), chain(schema, 60))
        sheet[()] = double
        self.assertEqual(len(sheet.text), 4960)
        self.assertEqual(self.refuse(TooLong, sheet, (1,), chain(schema, 62)).found, 5040)
        self.assertEqual(len(set_tree(sheet, (1,), chain(schema, 61))), 3)
        self.assertEqual(len(sheet.text), 5000)
        self.assertEqual(self.refuse(TooLong, sheet, (), great(schema, 199)).found, 20 * 2 ** 199 + 40)

    def test_created(self):
        schema = Schema(*BOUGHT)
        writer = Writer(schema, BOUGHT_RULES, "m")
        for value in no_strings() + [writer.form, Writer]:
            for tree in (self.tree, None):
                with self.assertRaises(NotAWriter) as caught:
                    Sheet(value, tree)
                self.assertIs(caught.exception.value, value)
        for value in no_strings() + ["dot; nil; put 0 1", Tree]:
            with self.assertRaises(NotATree) as caught:
                Sheet(writer, value)
            self.assertIs(caught.exception.value, value)
        self.assertRaises(OtherSchema, Sheet, writer, self.tree)
        dot = Tree(schema, "dot")
        with self.assertRaises(InvalidTree) as caught:
            Sheet(writer, dot)
        self.assertIs(caught.exception.value, dot)
        with self.assertRaises(TooLong) as caught:
            Sheet("<" + chain_writer(("-", (0, "m")), ("e",), ((0, "m"), (1, "m"))), great(Schema(*CHAIN), 150))
        self.assertEqual(caught.exception.found, 2 ** 150 + 1)


if __name__ == "__main__":
    unittest.main()
