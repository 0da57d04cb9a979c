import unittest

from fivetrees import samples
from fivetrees.samples import full_writer, looking_writer, moding_writer, sums_schema
from fivetrees.schemas import Schema
from fivetrees.writers import Writer

LOOKING = (
    ("top", "one", (), ("1",)),
    ("top", "add", (None, None), ((0, "top"), "+", (1, "top"))),
    ("top", "mul", (("add",), ("add",)), ("(", (0, "top"), ")*(", (1, "top"), ")")),
    ("top", "mul", (("add",), None), ("(", (0, "top"), ")*", (1, "top"))),
    ("top", "mul", (None, ("add",)), ((0, "top"), "*(", (1, "top"), ")")),
    ("top", "mul", (None, None), ((0, "top"), "*", (1, "top"))),
)
MODING = (
    ("sum", "one", (), ("1",)),
    ("sum", "add", (None, None), ((0, "sum"), "+", (1, "sum"))),
    ("sum", "mul", (None, None), ((0, "part"), "*", (1, "part"))),
    ("part", "one", (), ("1",)),
    ("part", "add", (None, None), ("(", (0, "sum"), "+", (1, "sum"), ")")),
    ("part", "mul", (None, None), ((0, "part"), "*", (1, "part"))),
)
FULL = (
    ("all", "one", (), ("1",)),
    ("all", "add", (None, None), ("(", (0, "all"), "+", (1, "all"), ")")),
    ("all", "mul", (None, None), ("(", (0, "all"), "*", (1, "all"), ")")),
)
WRITERS = ((looking_writer, LOOKING, "top"), (moding_writer, MODING, "sum"), (full_writer, FULL, "all"))


class Samples(unittest.TestCase):
    def test_the_schema(self):
        text = "kind num\nmake one num\nmake add num num num\nmake mul num num num"
        self.assertEqual(str(sums_schema()), text)
        self.assertIs(type(sums_schema()), Schema)
        self.assertTrue(sums_schema() == Schema.read(text))

    def test_the_writers(self):
        for make, rules, start in WRITERS:
            writer = make()
            self.assertIs(type(writer), Writer)
            self.assertEqual(writer.form, (str(sums_schema()), rules, start, "", ""))
            self.assertTrue(writer == Writer(sums_schema(), rules, start))
            self.assertTrue(writer == make())
            self.assertTrue(writer.schema == sums_schema())

    def test_where_they_are_defined(self):
        for make in (sums_schema, looking_writer, moding_writer, full_writer):
            self.assertEqual(make.__module__, samples.__name__)


if __name__ == "__main__":
    unittest.main()
