import unittest

from fivetrees import console
from fivetrees.console import Console
from fivetrees.errors import InvalidLine, InvalidWriters, TooLong, TooManyJoins, TooManyRows
from fivetrees.samples import full_writer, looking_writer, moding_writer, sums_schema
from fivetrees.schemas import Schema
from fivetrees.trees import Tree, trees
from fivetrees.writers import Writer
from tests.examples import BOUGHT
from tests.limits_of_joins import great_first_tree, one_more, one_more_beside_itself
from tests.test_deciding import chain_writer
from tests.test_readings import long_way
from tests.test_tree_paths import great
from tests.test_trees import CHAIN
from tests.test_writing import BOUGHT_RULES
from tests.values import no_strings

LETTERS = Writer(Schema(*BOUGHT), BOUGHT_RULES, "m")


class Lines(unittest.TestCase):
    def setUp(self):
        self.writers = (looking_writer(), moding_writer(), full_writer())
        self.console = Console(*self.writers)

    def test_write_and_length(self):
        for tree in trees(sums_schema(), "num", most=7):
            for number, writer in enumerate(self.writers):
                self.assertEqual(self.console.say(f"write {number} {tree}"), writer(tree))
                self.assertEqual(self.console.say(f"length {number} {tree}"), str(len(writer(tree))))
        self.assertEqual(self.console.say(line="write 2 one"), "1")

    def test_alike_and_first(self):
        yes = [(0, 0), (0, 1), (1, 0), (1, 1), (2, 2)]
        for one in range(3):
            for other in range(3):
                self.assertEqual(self.console.say(f"alike {one} {other}"), "yes" if (one, other) in yes else "no")
                self.assertEqual(self.console.say(f"first {one} {other}"), "none" if (one, other) in yes else "one; add 0 0")

    def test_constant(self):
        rules = tuple(("m", name, (None,) * many, ("x",)) for name, many in (("one", 0), ("add", 2), ("mul", 2)))
        lines = Console(full_writer(), Writer(sums_schema(), rules, "m"))
        self.assertEqual([lines.say("constant 0"), lines.say("constant 1")], ["no", "yes"])
        empty = Writer(Schema.read("kind a\nmake e a"), (("m", "e", (), ()),), "m")
        self.assertEqual(Console(empty).say("constant 0"), "yes")

    def test_read_and_again(self):
        for line, answer in (
            ("read 0 1+1+1", "one; add 0 0; add 0 1"), ("again 0 1+1+1", "one; add 0 0; add 1 0"), ("read 0 1", "one"),
            ("again 0 1", "none"), ("read 2 1+1", "none"), ("again 2 (1+1)", "none"), ("read 2 (1+1)", "one; add 0 0"),
            ("read 0 ", "none"), ("again 0 ", "none"), ("read 0  1", "none"), ("read 0 1 ", "none"), ("read 0 1\n", "none"),
            ("read 0 read 0 1", "none"), ("read 0 \u00e9", "none"),
        ):
            self.assertEqual(self.console.say(line), answer)

    def test_texts_with_blanks(self):
        rules = (("m", "one", (), (" ",)), ("m", "add", (None, None), ((0, "m"), " ", (1, "m"))), ("m", "mul", (None, None), ((0, "m"), "\n", (1, "m"))))
        lines = Console(Writer(sums_schema(), rules, "m"))
        self.assertEqual(lines.say("read 0  "), "one")
        self.assertEqual(lines.say("read 0    "), "one; add 0 0")
        self.assertEqual(lines.say("read 0  \n "), "one; mul 0 0")
        self.assertEqual(lines.say("read 0 "), "none")
        self.assertEqual(lines.say("write 0 one; mul 0 0"), " \n ")
        empty = Writer(sums_schema(), (("m", "one", (), ()), *rules[1:]), "m")
        self.assertEqual(Console(empty).say("read 0 "), "one")

    def test_great_texts(self):
        writer = chain_writer(("u", (0, "m")), ("e",), ((0, "m"), (1, "m")), after="!")
        lines = Console(writer)
        for many in (61, 100, 199):
            tree = great(Schema(*CHAIN), many)
            self.assertEqual(lines.say(f"length 0 {tree}"), str(2 ** many + 1))

    def test_many_writers(self):
        lines = Console(*[full_writer() for _ in range(12)])
        self.assertEqual([lines.say("alike 11 10"), lines.say("write 10 one"), lines.say("constant 11"), lines.say("read 11 1")], ["yes", "1", "no", "one"])
        for line in ("constant 12", "constant 011", "write 12 one", "alike 11 12", "alike 12 11"):
            self.assertRaises(InvalidLine, lines.say, line)

    def test_defined(self):
        for name in ("__init__", "say"):
            self.assertIn(name, vars(Console))
        self.assertEqual(Console.__module__, console.__name__)
        self.assertTrue(self.console == self.console)
        self.assertTrue(self.console != Console(*self.writers))
        self.assertIs(bool(Console()), True)


class Wrong(unittest.TestCase):
    def refuse(self, lines, line):
        with self.assertRaises(InvalidLine) as caught:
            lines.say(line)
        self.assertIs(caught.exception.value, line)

    def test_lines(self):
        lines = Console(looking_writer(), moding_writer())
        for line in no_strings() + [
            "", " ", "write", "write ", "write 0", "write 0 ", "write  0 one", "write 0  one", "write 0 one ", " write 0 one", "Write 0 one",
            "write 2 one", "write -1 one", "write 00 one", "write 01 one", "write +0 one", "write 0.0 one", "write one 0", "write 0\none",
            "write\n0 one", "write 0\tone", "write 0 two", "write 0 one; add 0 1", "write 0 one; add 0  0", "write 0 one;add 0 0", "write 0 one one",
            "write 0 one; one; add 0 1", "write 0 1", "write 0 one\n", "length", "length 0", "length 0 ", "length 0 num", "length 0 one; add 00 0",
            "alike", "alike 0", "alike 0 ", "alike 0 1 ", "alike 0  1", "alike 0 2", "alike 2 0", "alike 0 01", "alike 0 one", "alike 0 1 0",
            "alike 0,1", "first 0", "first 0 -1", "first a 0", "first 0 0\n", "constant", "constant ", "constant 2", "constant 0 ", "constant  0",
            "constant 0 1", "constant 0\n", "constant00", "constant 00", "read", "read ", "read 0", "read 2 1", "read  0 1", "read 00 1", "read\n0 1",
            "read0 1", "again 0", "again 2 1", "again", "reads 0 1", "say 0 1", "none", "yes", "exchange 0 1", "\u0661 0 one", "write \u0660 one",
            "write " + "0" * 4990 + " one", "write 0 " + "one; " * 990, "write " + "9" * 4990 + " one", "keep 0 one",
        ]:
            self.refuse(lines, line)

    def test_no_writers(self):
        for line in ("write 0 one", "constant 0", "alike 0 0", "read 0 ", "", None, "constant "):
            self.refuse(Console(), line)

    def test_trees_of_other_kinds(self):
        lines = Console(LETTERS)
        self.assertEqual(lines.say("write 0 dot; nil; put 0 1"), ".:[]")
        for word in ("write", "length"):
            self.refuse(lines, f"{word} 0 dot")
        rows = "; ".join(["dot", "nil"] + [f"put 0 {k + 1}" for k in range(199)])
        self.refuse(lines, f"write 0 {rows}")
        self.assertEqual(lines.say("length 0 " + rows.rpartition("; ")[0]), str(2 * 198 + 2))

    def test_errors_of_the_functions(self):
        one, other = one_more()
        chain = chain_writer(("u", (0, "m")), ("e",), ((0, "m"), (1, "m")))
        for lines, line, error, number in (
            (Console(one, other), "alike 0 1", TooManyJoins, 2000), (Console(one, other), "first 1 0", TooManyJoins, 2000),
            (Console(one_more_beside_itself()), "constant 0", TooManyJoins, 2000), (Console(great_first_tree(4981, before="x" * 20)), "constant 0", TooLong, 5001),
            (Console(chain), f"write 0 {great(Schema(*CHAIN), 13)}", TooLong, 2 ** 13), (Console(chain), "read 0 " + "u" * 41, TooLong, 41),
            (Console(chain), "again 0 " + " " * 41, TooLong, 41), (Console(long_way()), "read 0 " + "a" * 21, TooManyRows, 200),
        ):
            with self.assertRaises(error) as caught:
                lines.say(line)
            self.assertEqual(caught.exception.found if error is TooLong else caught.exception.limit, number)
        # A wrong line is a wrong line first.
        self.refuse(Console(one, other), "alike 0 2")
        self.refuse(Console(one, other), "alike 0 1 ")

    def test_writers(self):
        right = full_writer()
        other = Writer(Schema.read("kind a\nmake one a\nmake add a a a\nmake mul a a a"), right.rules, "all")
        for value in no_strings() + [right.form, Writer, sums_schema(), other]:
            for index in range(1, 4):
                writers = [right] * 3
                writers.insert(index, value)
                with self.assertRaises(InvalidWriters) as caught:
                    Console(*writers, None)
                self.assertEqual(caught.exception.index, index)
            if value is not other:
                with self.assertRaises(InvalidWriters) as caught:
                    Console(value, right, None)
                self.assertEqual(caught.exception.index, 0)
        with self.assertRaises(InvalidWriters) as caught:
            Console(other, other, right, other)
        self.assertEqual(caught.exception.index, 2)
        tree = Tree(sums_schema(), "one")
        with self.assertRaises(InvalidWriters) as caught:
            Console(tree)
        self.assertEqual(caught.exception.index, 0)


if __name__ == "__main__":
    unittest.main()
