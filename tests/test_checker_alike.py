import random
import unittest

from fivetrees.certificates import certify_alike
from fivetrees.checker import holds
from fivetrees.keeping import Keeping
from fivetrees.samples import full_writer, looking_writer, moding_writer
from fivetrees.schemas import Schema
from fivetrees.spans import Span
from fivetrees.trees import Tree, trees
from fivetrees.writers import Writer
from tests import plain_checker
from tests.limits_of_joins import great_first_tree
from tests.test_deciding import in_modes, with_looks_written_out
from tests.test_tree_paths import great
from tests.test_trees import CHAIN

CHAINS = Schema.read("kind n\nmake e n\nmake u n n")


def chains(up, end, **around):
    return Writer(CHAINS, (("m", "e", (), end), ("m", "u", (None,), up)), "m", **around)


def two_chains():
    """Two writers that write alike by other strings, with the certificate: (claim, lists, sums)."""
    claim, (lists, sums) = certify_alike(chains(("ab", (0, "m")), ("a",)), chains(((0, "m"), "ba"), ("a",)))
    return claim, lists, sums


class Right(unittest.TestCase):
    def setUp(self):
        self.claim, self.lists, self.sums = two_chains()

    def check(self, expected, lists, sums):
        self.assertIs(holds(self.claim, (tuple(lists), tuple(sums))), expected)
        self.assertIs(plain_checker.holds(self.claim, (tuple(lists), tuple(sums))), expected)

    def test_its_form(self):
        self.check(True, self.lists, self.sums)
        self.assertEqual([state for state, _ in self.lists], [("e", "m", "m"), ("u", "m", "m")])
        self.assertEqual([len(listed) for _, listed in self.lists], [1, 2])
        self.assertEqual(sorted((state[0], choice) for state, choice, _ in self.sums), [
            ("e", ()), ("u", (("e", 0),)), ("u", (("u", 0),)), ("u", (("u", 1),)),
        ])

    def test_other_orders(self):
        source = random.Random(42)
        for _ in range(20):
            lists, sums = list(self.lists), list(self.sums)
            source.shuffle(lists)
            source.shuffle(sums)
            self.check(True, lists, sums)

    def test_parts_left_out_and_doubled(self):
        for k in range(len(self.lists)):
            self.check(False, self.lists[:k] + self.lists[k + 1:], self.sums)
            self.check(False, self.lists + self.lists[k:k + 1], self.sums)
        for k in range(len(self.sums)):
            self.check(False, self.lists, self.sums[:k] + self.sums[k + 1:])
            self.check(False, self.lists, self.sums + self.sums[k:k + 1])
            # As many as before, but one of them twice.
            self.check(False, self.lists, self.sums[:k] + self.sums[k + 1:] + self.sums[k - 1:][:1])
        self.check(False, (), ())

    def test_numbers(self):
        for k, (state, choice, numbers) in enumerate(self.sums):
            for wrong in (
                numbers[:-1], numbers + ((0, 1),), tuple((over, -under) for over, under in numbers), tuple((over, 0) for over, _ in numbers),
                tuple((-over, -under) for over, under in numbers), tuple((over + under, under) for over, under in numbers), list(numbers),
                tuple(list(pair) for pair in numbers), tuple((over,) for over, _ in numbers), tuple((over, under, 1) for over, under in numbers),
                tuple((over, True) for over, _ in numbers), tuple((over, str(under)) for over, under in numbers), (), None,
            ):
                self.check(False, self.lists, self.sums[:k] + ((state, choice, wrong),) + self.sums[k + 1:])
            for factor in (2, 7, 10 ** 39):
                right = tuple((over * factor, under * factor) for over, under in numbers)
                self.check(True, self.lists, self.sums[:k] + ((state, choice, right),) + self.sums[k + 1:])

    def test_choices(self):
        for k, (state, choice, numbers) in enumerate(self.sums):
            for wrong in (
                choice + (("e", 0),), (("e", 1),), (("u", 2),), (("u", -1),), (("x", 0),), (("e",),), (["e", 0],), (("e", False),), (("e", "0"),),
                (("e", 0, 0),), None, ("e", 0), [], (None,),
            ):
                self.check(False, self.lists, self.sums[:k] + ((state, wrong, numbers),) + self.sums[k + 1:])
            for other in (("u", "m", None), ("u", None, "m"), ("x", "m", "m"), ("u", "n", "m"), ("u", "m"), list(state), None, ("e" if k else "u", "m", "m")):
                self.check(False, self.lists, self.sums[:k] + ((other, choice, numbers),) + self.sums[k + 1:])

    def test_more_trees_than_needed(self):
        rows = (("e", ()), ("u", (0,)), ("u", (1,)), ("u", (2,)))
        lists = (self.lists[0], (self.lists[1][0], self.lists[1][1] + (rows,)))
        more = tuple((state, choice, numbers + ((0, 1),) * (state[0] == "u")) for state, choice, numbers in self.sums)
        self.check(False, lists, self.sums)
        self.check(False, lists, more)
        state = ("u", "m", "m")
        # The third tree is u(u(u(e))), of which the fourth is made; it has a sum of its own.
        fourth = self.numbers_of(state, rows + (("u", (3,)),))
        self.check(True, lists, more + ((state, (("u", 2),), fourth + ((0, 1),)),))
        self.check(False, lists, more + ((state, (("u", 2),), fourth + ((1, 1),)),))
        # The same tree twice is more than needed, too.
        lists = (self.lists[0], (self.lists[1][0], self.lists[1][1] + self.lists[1][1][:1]))
        again = [numbers for state, choice, numbers in self.sums if choice == (("u", 0),)][0]
        self.check(True, lists, more + ((state, (("u", 2),), again + ((0, 1),)),))

    def numbers_of(self, state, rows):
        """The numbers by which the tree is a sum of the trees that are kept in the state."""
        keeping = Keeping(Writer.of_form(self.claim[1]), Writer.of_form(self.claim[2]))
        span = Span()
        for k, tree in enumerate(keeping.kept(state)):
            span.widen(keeping.row(tree, state) + (0,) * k + (1,) + (0,) * (4 - k))
        tree = Tree.of_rows(CHAINS, rows)
        return tuple(span.multiples(keeping.row(tree, state), 5)[:len(keeping.kept(state))])

    def test_an_empty_list(self):
        for k in range(2):
            lists = [(state, () if at == k else listed) for at, (state, listed) in enumerate(self.lists)]
            left = [row for row in self.sums if ("eu"[k], 0) not in row[1] and ("eu"[k], 1) not in row[1]]
            for sums in (left, self.sums, [row for row in left if row[0][0] != "eu"[k]]):
                emptied = [(state, choice, () if state[0] == "eu"[k] else numbers) for state, choice, numbers in sums]
                self.check(False, lists, sums)
                self.check(False, lists, emptied)
        self.check(False, [(state, ()) for state, _ in self.lists], [(("e", "m", "m"), (), ())])

    def test_states_more_than_needed(self):
        rows = ((("e", ()),), (("e", ()), ("u", (0,))))
        for mode, other in ((None, None), ("m", None), (None, "m")):
            # The trees with this one on top have texts of any length, or none at all.
            lists = self.lists + ((("e", mode, other), rows[:1]),)
            sums = self.sums + ((("e", mode, other), (), ((1, 1),)),)
            self.check(True, lists, sums)
            self.check(False, lists, self.sums)
            self.check(False, self.lists, sums)
        lists = self.lists + ((("u", None, None), rows[1:]),)
        self.check(False, lists, self.sums + ((("u", None, None), (("u", 0),), ((1, 1),)),))
        lists += ((("e", None, None), rows[:1]),)
        sums = self.sums + ((("e", None, None), (), ((1, 1),)), (("u", None, None), (("e", 0),), ((1, 1),)), (("u", None, None), (("u", 0),), ((1, 1),)))
        self.check(True, lists, sums)
        # These are no states: modes that are not needed, and constructors that there are not.
        for state in (("e", "n", "m"), ("e", "m", "n"), ("x", None, None), ("e", "", None), ("e", None), ("e", None, None, None), ("e", 0, None)):
            self.check(False, self.lists + ((state, rows[:1]),), self.sums + ((state, (), ((1, 1),)),))

    def test_trees_with_another_top(self):
        for state, listed in (
            (("e", "m", "m"), ((("e", ()), ("u", (0,))),)), (("u", "m", "m"), ((("e", ()),),)), (("e", "m", "m"), ((("e", ()), ("e", ())),)),
            (("e", "m", "m"), (["e", ()],)), (("e", "m", "m"), [(("e", ()),)]), (("e", "m", "m"), (("e", ()),)), (("e", "m", "m"), None),
        ):
            lists = [(state, listed) if known[0] == state else known for known in self.lists]
            self.check(False, lists, self.sums)

    def test_pairs(self):
        for certificate in ((self.lists,), (self.lists, self.sums, ()), [self.lists, self.sums], (list(self.lists), self.sums), (self.lists, list(self.sums)), (self.sums, self.lists), ()):
            self.assertIs(holds(self.claim, certificate), False)


class Others(unittest.TestCase):
    def test_pairs_of_writers(self):
        looking, moding, full = looking_writer(), moding_writer(), full_writer()
        for one, other in (
            (looking, moding), (moding, looking), (full, in_modes(full, ("a", "b", "c"))), (with_looks_written_out(looking), moding),
            ("<" + moding + ">", "<" + looking + ">"),
        ):
            claim, certificate = certify_alike(one, other)
            self.assertEqual(claim, ("alike", one.form, other.form))
            self.assertIs(holds(claim, certificate), True)
            for wrong in ("<" + other, other + ">", other.spelled((("1", "2"),)), other.spelled((("*", "+"),)), full_writer() + "+"):
                self.assertIs(holds(("alike", one.form, wrong.form), certificate), False)
                self.assertIs(holds(("alike", wrong.form, one.form), certificate), False)

    def test_before_and_after(self):
        one = chains(("ab", (0, "m")), (), before="a")
        other = chains(("ba", (0, "m")), (), after="a")
        claim, certificate = certify_alike(chains(("ab", (0, "m")), ()), chains(("ab", (0, "m")), ()))
        # The lists and sums are right for these two, and so are the texts, but not with before and after.
        self.assertIs(holds(claim, certificate), True)
        for before, after in (("a", ""), ("", "a"), ("b", "b"), ("x", "")):
            around = (claim[2][0], claim[2][1], "m", before, after)
            self.assertIs(holds((claim[0], claim[1], around), certificate), False)
        unlike, rows = certify_alike(one, other)
        self.assertEqual((unlike[0], rows), ("unlike", (("e", ()), ("u", (0,)))))
        self.assertIs(holds(unlike, rows), True)

    def test_all_small_trees_as_lists(self):
        # Lists of others than the kept trees: for each state the first trees, whatever they are.
        looking, moding = looking_writer(), moding_writer()
        keeping = Keeping(looking, moding)
        known = list(trees(looking.schema, "num", most=7))
        lists, sums, listed = [], [], {}
        for state in keeping.states:
            listed[state] = [tree for tree in known if tree.name == state[0]][:7]
            lists.append((state, tuple(tree.rows for tree in listed[state])))
        for state in keeping.states:
            sums += self.sums_for(keeping, state, listed)
        certificate = (tuple(lists), tuple(sums))
        claim = ("alike", looking.form, moding.form)
        self.assertIs(holds(claim, certificate), True)
        self.assertGreater(len(sums), 300)
        for k in (0, 5, len(sums) // 2, len(sums) - 1):
            self.assertIs(holds(claim, (certificate[0], certificate[1][:k] + certificate[1][k + 1:])), False)

    def sums_for(self, keeping, state, listed):
        fives, span = Span(), Span()
        for k, tree in enumerate(listed[state]):
            if fives.widen(keeping.row(tree, state)):
                span.widen(keeping.row(tree, state) + tuple(int(k == at) for at in range(7)))
        found = []
        for choice, fields in self.choices(keeping, state, listed):
            tree = Tree(keeping.writer.schema, state[0], *fields)
            numbers = span.multiples(keeping.row(tree, state), 5)[:len(listed[state])]
            found.append((state, choice, tuple(numbers)))
        return found

    def choices(self, keeping, state, listed):
        if state[0] == "one":
            return [((), ())]
        found = []
        for one in ("one", "add", "mul"):
            for other in ("one", "add", "mul"):
                modes = ("sum", "sum") if state[0] == "add" else ("part", "part")
                below = [(one, "top", modes[0]), (other, "top", modes[1])]
                found += [
                    (((one, k), (other, m)), (first, second))
                    for k, first in enumerate(listed[below[0]]) for m, second in enumerate(listed[below[1]])
                ]
        return found

    def test_writers_that_write_nothing(self):
        quiet = Writer(CHAINS, (("m", "e", (), ()), ("m", "u", (None,), ((0, "m"),))), "m")
        claim, certificate = certify_alike(quiet, quiet)
        self.assertIs(holds(claim, certificate), True)
        # By the first number each sum is 1 in all.
        lists, sums = certificate
        self.assertEqual([sum(over for over, _ in numbers) for _, _, numbers in sums], [1, 1, 1])

    def test_long_texts(self):
        for signs in (4999, 5000):
            writer = great_first_tree(signs, before="x" * 20)
            claim, certificate = certify_alike(writer, writer)
            self.assertIs(holds(claim, certificate), True)
            unlike, rows = certify_alike(writer, writer + ".")
            self.assertIs(holds(unlike, rows), True)
            other, rows = certify_alike(writer, writer.spelled((("e", "f"),)))
            self.assertEqual(other[0], "unlike")
            self.assertIs(holds(other, rows), True)

    def test_great_trees(self):
        # What is accepted is true, also with a tree of which no text could be written.
        schema = Schema(*CHAIN)
        rules = (("m", "end", (), ("a",)), ("m", "up", (None,), ("a",)), ("m", "two", (None, None), ((0, "m"), (1, "m"))))
        writer = Writer(schema, rules, "m")
        claim, (lists, sums) = certify_alike(writer, writer)
        changed = tuple((state, listed + ((great(schema, 199).rows,) if state[0] == "two" else ())) for state, listed in lists)
        self.assertIs(holds(claim, (lists, sums)), True)
        self.assertIs(holds(claim, (changed, sums)), False)


if __name__ == "__main__":
    unittest.main()
