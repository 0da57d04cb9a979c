import doctest
import unittest

from fivetrees.errors import Refused
from fivetrees.samples import moding_writer
from fivetrees.workshop import Workshop

TREES = """
>>> from fivetrees.samples import sums_schema
>>> from fivetrees.trees import Tree, compare, trees
>>> sums = sums_schema()
>>> one = Tree(sums, "one")
>>> three = Tree(sums, "mul", Tree(sums, "add", one, one), one)
>>> [str(three), three.size, three.depth, str(three[(0,)]), compare(one, three), str(three.put((0, 1), three[(0,)])), \
repr(three), list(map(str, trees(sums, "num", most=3)))]
['one; add 0 0; mul 1 0', 5, 3, 'one; add 0 0', -1, 'one; add 0 0; add 0 1; mul 2 0', 'Tree(mul, size 5)', \
['one', 'one; add 0 0', 'one; mul 0 0']]
"""

WRITERS = """
>>> from fivetrees.samples import full_writer, looking_writer, moding_writer, sums_schema
>>> from fivetrees.trees import Tree
>>> tree = Tree.read(sums_schema(), "one; add 0 0; mul 1 0")
>>> [looking_writer()(tree), moding_writer()(tree), full_writer()(tree), moding_writer().written(tree[(0,)], "part"), \
("=" + full_writer() + ";")(tree[(1,)]), full_writer().spelled((("(", "["), (")", "]")))(tree), repr(moding_writer())]
['(1+1)*1', '(1+1)*1', '((1+1)*1)', '(1+1)', '=1;', '[[1+1]*1]', 'Writer(2 modes, 6 rules)']
"""

LONGTEXTS = """
>>> from fivetrees.longtexts import LongText
>>> from fivetrees.samples import full_writer, sums_schema
>>> from fivetrees.trees import Tree
>>> tree = Tree(sums_schema(), "one")
>>> tree = Tree(sums_schema(), "add", tree, tree)
>>> tree = Tree(sums_schema(), "mul", tree, tree)
>>> text = LongText(full_writer(), tree)
>>> [text.length, text[0], text[-3], text.piece(1, 5), text.count("(1")]
[13, '(', '1', '(1+1)', 7]
"""

KEEPING = """
>>> from fivetrees.keeping import Keeping
>>> from fivetrees.samples import looking_writer, moding_writer, sums_schema
>>> from fivetrees.trees import Tree
>>> keeping = Keeping(looking_writer(), moding_writer())
>>> [keeping.base, len(keeping.states), keeping.row(Tree(sums_schema(), "one"), ("one", "top", "sum")), \
list(map(str, keeping.kept(("one", "top", "part"))))]
[6, 6, (1, 6, 5, 6, 5), ['one']]
"""

DECIDING = """
>>> from fivetrees.deciding import alike, constant_text, enough_trees, first_unequal, first_unlike
>>> from fivetrees.samples import full_writer, looking_writer, moding_writer
>>> looking, moding, full = looking_writer(), moding_writer(), full_writer()
>>> [alike(looking, moding), first_unlike(looking, moding), str(first_unlike(looking, full)), \
str(first_unequal(full, moding)), constant_text(full), len(enough_trees(looking, moding)) <= 15]
[True, None, 'one; add 0 0', 'one; add 0 0', None, True]
"""

MODES = """
>>> from fivetrees.modes import lean, mode_classes
>>> from fivetrees.samples import full_writer, moding_writer, sums_schema
>>> from fivetrees.writers import Writer
>>> rules = (("a", "one", (), ("1",)), ("b", "one", (), ("1",)), \
("a", "add", (None, None), ((0, "b"), "+", (1, "b"))), ("b", "add", (None, None), ((0, "a"), "+", (1, "a"))), \
("a", "mul", (None, None), ("*",)), ("b", "mul", (None, None), ("*",)))
>>> twice = Writer(sums_schema(), rules, "b")
>>> [mode_classes(twice, "num"), mode_classes(moding_writer(), "num"), lean(twice).rules, lean(twice).start, \
lean(full_writer()) == full_writer()]
[(('a', 'b'),), (('sum',), ('part',)), (('a', 'one', (), ('1',)), \
('a', 'add', (None, None), ((0, 'a'), '+', (1, 'a'))), ('a', 'mul', (None, None), ('*',))), 'a', True]
"""

PATTERNS = """
>>> from fivetrees.patterns import Pattern, always, first_breaking, first_keeping
>>> from fivetrees.samples import full_writer, moding_writer
>>> plain, closed = Pattern.without("+*"), Pattern(2, (1,), (0, ")", 1), (1, None, 0))
>>> [plain.keeps("1+1*1"), plain.keeps("1+*1"), always(moding_writer(), plain), \
str(first_breaking(full_writer(), Pattern.without("(("))), str(first_keeping(moding_writer(), closed)), closed.face("1)")]
[True, False, True, 'one; add 0 0; add 1 0', 'one; add 0 0; mul 0 1', (1, 1)]
"""

READINGS = """
>>> from fivetrees.readings import first_reading, second_reading
>>> from fivetrees.samples import full_writer, looking_writer
>>> writer = looking_writer()
>>> [str(first_reading(writer, "1+1+1")), str(second_reading(writer, "1+1+1")), \
second_reading(full_writer(), "((1+1)*1)"), first_reading(full_writer(), "1+1")]
['one; add 0 0; add 0 1', 'one; add 0 0; add 1 0', None, None]
"""

SHEETS = """
>>> from fivetrees.samples import moding_writer, sums_schema
>>> from fivetrees.sheets import Sheet, set_tree
>>> from fivetrees.trees import Tree
>>> sums = sums_schema()
>>> sheet = Sheet(moding_writer(), Tree.read(sums, "one; mul 0 0; mul 1 0"))
>>> patch = set_tree(sheet, (0,), Tree.read(sums, "one; add 0 0"))
>>> shown = [patch, sheet.text, str(sheet[(0,)]), len(sheet)]
>>> sheet.undo()
>>> shown + [sheet.text, len(sheet)]
[(0, 3, '(1+1)'), '(1+1)*1', 'one; add 0 0', 1, '1*1*1', 0]
"""

WORKSHOP = """
>>> from fivetrees.samples import moding_writer
>>> from fivetrees.workshop import Workshop
>>> shop = Workshop(moding_writer())
>>> shop.do(("put", 5, ("part", "mul", (("one",), None), ("1*", (1, "part")))))
>>> [len(shop), len(shop.writer.rules), shop.first == moding_writer()]
[1, 7, True]
"""

CERTIFICATES = """
>>> from fivetrees.certificates import certify_alike, certify_reading
>>> from fivetrees.checker import holds
>>> from fivetrees.samples import full_writer, looking_writer, moding_writer
>>> claim, paper = certify_alike(looking_writer(), moding_writer())
>>> other, rows = certify_alike(looking_writer(), full_writer())
>>> [claim[0], holds(claim, paper), other[0], rows, holds(other, rows), holds(claim, ((), ())), \
certify_reading(full_writer(), "1")[1]]
['alike', True, 'unlike', (('one', ()), ('add', (0, 0))), True, False, (('one', ()),)]
"""

CONSOLE = """
>>> from fivetrees.console import Console
>>> from fivetrees.samples import full_writer, looking_writer, moding_writer
>>> console = Console(looking_writer(), moding_writer(), full_writer())
>>> list(map(console.say, ["write 0 one; add 0 0; mul 1 0", "alike 0 1", "first 1 2", "length 2 one; add 0 0", \
"constant 2", "read 2 (1*1)", "again 0 1+1+1", "read 1 +"]))
['(1+1)*1', 'yes', 'one; add 0 0', '5', 'no', 'one; mul 0 0', 'one; add 0 0; add 1 0', 'none']
"""


class Examples(unittest.TestCase):
    def check(self, text):
        examples = doctest.DocTestParser().get_doctest(text, {}, "examples", None, 0)
        told = []
        result = doctest.DocTestRunner(verbose=False).run(examples, out=told.append)
        self.assertGreater(result.attempted, 3)
        self.assertEqual(result.failed, 0, "".join(told))

    def test_trees(self):
        self.check(TREES)

    def test_writers(self):
        self.check(WRITERS)

    def test_longtexts(self):
        self.check(LONGTEXTS)

    def test_keeping(self):
        self.check(KEEPING)

    def test_deciding(self):
        self.check(DECIDING)

    def test_modes(self):
        self.check(MODES)

    def test_patterns(self):
        self.check(PATTERNS)

    def test_readings(self):
        self.check(READINGS)

    def test_sheets(self):
        self.check(SHEETS)

    def test_workshop(self):
        self.check(WORKSHOP)
        with self.assertRaises(Refused) as caught:
            Workshop(moding_writer()).do(("exchange", "add", 0, 1))
        self.assertEqual(caught.exception.deed, ("exchange", "add", 0, 1))

    def test_certificates(self):
        self.check(CERTIFICATES)

    def test_console(self):
        self.check(CONSOLE)


if __name__ == "__main__":
    unittest.main()
