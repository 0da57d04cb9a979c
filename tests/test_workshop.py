import unittest

from fivetrees import workshop
from fivetrees.deciding import first_unlike
from fivetrees.errors import (
    Busy, InvalidDeed, InvalidNumber, InvalidRules, InvalidStart, MissingRule, NotAWriter, NothingToUndo, Refused,
    TooManyDeeds, TooManyJoins, UnknownConstructor, Unlike,
)
from fivetrees.modes import lean
from fivetrees.samples import full_writer, looking_writer, moding_writer, sums_schema
from fivetrees.schemas import Schema
from fivetrees.workshop import Workshop, attempt
from fivetrees.writers import Writer
from tests import plain
from tests.limits_of_joins import one_more_beside_itself
from tests.test_deciding import in_modes
from tests.values import Alike, Broken, no_strings, no_tuples

PUT = ("put", 5, ("part", "mul", (("one",), None), ("1*", (1, "part"))))
SAME = ("using", "one", "one")
NO_DEEDS = [
    (), ("put",), ("put", 0), ("put", 0, (), ()), ("drop",), ("drop", 0, 0), ("using", "one"), ("using",), ("exchange", "add", 0),
    ("exchange", "add", 0, 1, 1), ("lean", 1), ("lean", ()), ("Lean",), ("", 0), ("do", 0), (None,), (0, 1), (("lean",),),
    ["lean"], "lean", ("lean ",), (b"lean",), (True,), ("put", "drop", "using", "exchange", "lean"), (Alike(),), (Broken(), 0, 0),
]


def state_of(shop):
    return (shop.writer, shop.log, len(shop), shop.busy)


class Deeds(unittest.TestCase):
    def setUp(self):
        self.shop = Workshop(moding_writer())

    def do(self, deed, expected):
        """The deed is done, and the writer is the expected one."""
        before = state_of(self.shop)
        self.assertIs(self.shop.do(deed), None)
        self.assertTrue(self.shop.writer == expected)
        self.assertEqual((self.shop.log[:-1], self.shop.log[-1], len(self.shop)), (before[1], deed, before[2] + 1))
        self.assertIs(self.shop.log[-1], deed)

    def refuse(self, deed, text):
        before = state_of(self.shop)
        with self.assertRaises(Refused) as caught:
            self.shop.do(deed)
        self.assertIs(caught.exception.deed, deed)
        self.assertEqual(str(caught.exception.tree), text)
        cause = caught.exception.__cause__
        self.assertIs(type(cause), Unlike)
        self.assertTrue(cause.tree == caught.exception.tree)
        self.assertTrue(state_of(self.shop) == before)

    def test_created(self):
        writer = moding_writer()
        shop = Workshop(writer=writer)
        self.assertTrue(shop.writer == writer and shop.first == writer)
        self.assertEqual((shop.log, len(shop), shop.busy, bool(shop)), ((), 0, False, False))
        self.assertEqual((Workshop.MOST, shop.MOST), (100, 100))
        self.assertTrue(shop == shop)
        self.assertTrue(shop != Workshop(writer))
        for value in no_strings() + [writer.form, Writer, shop]:
            with self.assertRaises(NotAWriter) as caught:
                Workshop(value)
            self.assertIs(caught.exception.value, value)

    def test_the_methods_stand_in_the_class(self):
        for name in ("__init__", "do", "do_all", "undo", "trial", "writer", "first", "log", "busy", "__len__", "MOST"):
            self.assertIn(name, vars(Workshop))
        self.assertEqual({Workshop.__module__, attempt.__module__}, {workshop.__name__})
        for name in ("writer", "first", "log", "busy"):
            with self.assertRaises(AttributeError):
                setattr(self.shop, name, 1)

    def test_put_and_drop(self):
        writer = moding_writer()
        self.do(PUT, writer.with_rule(*PUT[1:]))
        self.do(("drop", 5), writer)
        self.assertIs(bool(self.shop), True)
        self.refuse(("put", 4, ("part", "add", (("one",), None), ("(1+", (1, "sum"), ")", "."))), "one; add 0 0; mul 0 1")
        self.refuse(("put", 0, ("sum", "one", (), ("0",))), "one")
        twice = ("put", 3, ("part", "mul", (("mul", "one"), ("one",)), ((0, "part"), "*", (1, "sum"))))
        self.do(twice, writer.with_rule(*twice[1:]))

    def test_drop_that_is_refused(self):
        self.shop = Workshop(looking_writer())
        self.refuse(("drop", 2), "one; add 0 0; mul 1 1")
        self.refuse(("drop", 3), "one; add 0 0; mul 1 0")
        self.assertEqual(len(self.shop), 0)

    def test_using(self):
        rules = tuple(
            ("all", name, (None, None), (sign, (0, "all"), ",", (1, "all"))) for name, sign in (("add", "+"), ("mul", "+"))
        )
        self.shop = Workshop(Writer(sums_schema(), (("all", "one", (), ("1",)),) + rules, "all"))
        self.do(("using", "mul", "add"), self.shop.writer)
        self.do(SAME, self.shop.writer)
        self.shop = Workshop(moding_writer())
        self.refuse(("using", "mul", "add"), "one; mul 0 0")
        self.refuse(("using", "add", "mul"), "one; add 0 0")

    def test_exchange(self):
        rules = (
            ("a", "one", (), ("1",)), ("a", "add", (None, None), ("(+)",)), ("a", "mul", (None, None), ((1, "a"), (0, "a"))),
        )
        self.shop = Workshop(Writer(sums_schema(), rules, "a"))
        self.do(("exchange", "add", 0, 1), self.shop.writer)
        self.do(("exchange", "mul", 1, 1), self.shop.writer)
        self.refuse(("exchange", "mul", 0, 1), "one; add 0 0; mul 0 1")

    def test_lean(self):
        doubled = in_modes(full_writer(), ("a", "b", "c"))
        self.shop = Workshop(doubled)
        self.do(("lean",), lean(doubled))
        self.assertTrue(self.shop.first == doubled)
        self.assertEqual(len(self.shop.writer.rules), 3)
        self.do(("lean",), self.shop.writer)

    def test_the_first_writer_counts(self):
        # Each step is small, but it is compared with the first writer.
        self.do(PUT, moding_writer().with_rule(*PUT[1:]))
        self.refuse(("put", 5, ("part", "mul", (("one",), None), ("1 *", (1, "part")))), "one; mul 0 0; mul 0 1")
        self.assertRaises(MissingRule, self.shop.do, ("drop", 6))

    def test_schemas_of_several_kinds(self):
        schema = Schema.read("kind list\nkind item\nmake nil list\nmake put list item list\nmake dot item\nmake dash item")
        rules = (
            ("m", "nil", (), ()), ("m", "put", (None, None), ((0, "m"), (1, "m"))), ("m", "dot", (), (".",)), ("m", "dash", (), ("-",)),
        )
        self.shop = Workshop(Writer(schema, rules, "m"))
        self.refuse(("using", "dash", "dot"), "dash; nil; put 0 1")
        self.refuse(("using", "dot", "dash"), "dot; nil; put 0 1")
        with self.assertRaises(UnknownConstructor) as caught:
            self.shop.do(("using", "dot", "nil"))
        self.assertEqual(caught.exception.value, "nil")

    def test_undo(self):
        writers = [self.shop.writer]
        for deed in (PUT, ("lean",), SAME, ("drop", 5)):
            self.shop.do(deed)
            writers.append(self.shop.writer)
        for many in (3, 2, 1, 0):
            self.assertIs(self.shop.undo(), None)
            self.assertTrue(self.shop.writer == writers[many])
            self.assertEqual(self.shop.log, (PUT, ("lean",), SAME, ("drop", 5))[:many])
        for _ in range(2):
            self.assertRaises(NothingToUndo, self.shop.undo)
        self.assertEqual(state_of(self.shop)[1:], ((), 0, False))

    def test_the_guard(self):
        known = plain.all_trees(sums_schema(), "num", 7)
        for first in (looking_writer(), moding_writer(), in_modes(looking_writer(), ("a", "b"))):
            shop = Workshop(first)
            rules = first.rules + PUT[2:]
            deeds = [("put", index, rule) for rule in rules for index in range(len(rules))] + [("lean",)]
            deeds += [("drop", index) for index in range(9)] + [("exchange", "add", 0, 1), ("using", "mul", "add")]
            done = 0
            for deed in deeds:
                if len(shop) == 100 or len(shop.writer.rules) > 20:
                    shop.undo()
                try:
                    shop.do(deed)
                    done += 1
                except (Refused, InvalidNumber, MissingRule, InvalidRules):
                    pass
            self.assertGreater(done, 10)
            for one in known:
                self.assertEqual(plain.whole(shop.writer, one), plain.whole(first, one))


class Errors(unittest.TestCase):
    def check(self, shop, error, deed, **attributes):
        before = state_of(shop)
        with self.assertRaises(error) as caught:
            shop.do(deed)
        self.assertIs(type(caught.exception), error)
        for name, value in attributes.items():
            self.assertEqual(getattr(caught.exception, name), value)
        self.assertTrue(state_of(shop) == before)

    def test_no_deeds(self):
        shop = Workshop(moding_writer())
        for value in NO_DEEDS + no_tuples():
            self.check(shop, InvalidDeed, value, index=0)

    def test_errors_of_the_methods(self):
        shop = Workshop(moding_writer())
        for value in (-1, 7, "0", None, True, 10 ** 39):
            self.check(shop, InvalidNumber, ("put", value, PUT[2]), value=value)
        for value in (-1, 6, "0", None, False):
            self.check(shop, InvalidNumber, ("drop", value), value=value)
        self.check(shop, InvalidRules, ("put", 2, None), index=2)
        self.check(shop, InvalidRules, ("put", 6, ("sum", "one", (), ("",))), index=6)
        self.check(shop, InvalidRules, ("put", 0, ("a", "one", (), ("1",)) + ("",)), index=0)
        self.check(shop, InvalidRules, ("put", 1, ("sum", "add", (None, None), ((0, "x"),))), index=1)
        self.check(shop, MissingRule, ("drop", 3), mode="part", name="one")
        self.check(shop, UnknownConstructor, ("using", "two", "one"), value="two")
        self.check(shop, UnknownConstructor, ("using", "add", "two"), value="two")
        self.check(shop, UnknownConstructor, ("using", "one", "add"), value="add")
        self.check(shop, UnknownConstructor, ("exchange", None, 0, 1), value=None)
        self.check(shop, InvalidNumber, ("exchange", "add", 2, 1), value=2)
        self.check(shop, InvalidNumber, ("exchange", "add", 0, True), value=True)
        only = Workshop(Writer(Schema.read("kind a\nmake e a"), (("m", "e", (), ()),), "m"))
        self.check(only, InvalidRules, ("drop", 0), index=None)
        two = Workshop(Writer(Schema.read("kind a\nmake e a"), (("m", "e", (), ()), ("n", "e", (), ())), "m"))
        self.check(two, InvalidStart, ("drop", 0), value="m")

    def test_hundred_deeds(self):
        shop = Workshop(full_writer())
        for many in range(100):
            self.assertEqual(len(shop), many)
            shop.do(SAME)
        for deed in (SAME, ("drop", 99), ("lean",), ("put", 0, None), ("exchange", "add", 0, 1)):
            self.check(shop, TooManyDeeds, deed, limit=100)
        for value in NO_DEEDS:
            self.check(shop, InvalidDeed, value, index=0)
        shop.undo()
        shop.do(SAME)
        self.assertEqual(shop.log, (SAME,) * 100)

    def test_joins(self):
        shop = Workshop(one_more_beside_itself())
        name = shop.writer.schema.names[0]
        for deed in (("using", name, name), ("put", 0, shop.writer.rules[0]), ("exchange", "c1", 0, 1), ("lean",)):
            self.check(shop, TooManyJoins, deed, limit=2000)
        # The errors of the methods come before.
        self.check(shop, InvalidNumber, ("drop", 10), value=10)
        self.check(shop, UnknownConstructor, ("using", name, "c0"), value="c0")
        self.check(shop, InvalidRules, ("put", 0, ()), index=0)


class All(unittest.TestCase):
    def setUp(self):
        self.shop = Workshop(moding_writer())
        self.shop.do(PUT)
        self.before = state_of(self.shop)

    def check_unchanged(self):
        self.assertTrue(state_of(self.shop) == self.before)
        self.shop.do(SAME)
        self.shop.undo()

    def test_all(self):
        deeds = (("drop", 5), ("lean",), PUT)
        self.assertIs(self.shop.do_all(*deeds), None)
        self.assertEqual(self.shop.log, (PUT,) + deeds)
        self.assertTrue(self.shop.writer == self.before[0])
        for left in (3, 2, 1, 0):
            self.shop.undo()
            self.assertEqual(self.shop.log, ((PUT,) + deeds)[:left])
        self.assertTrue(self.shop.writer == moding_writer())

    def test_no_deeds_at_all(self):
        called = []
        self.assertIs(self.shop.do_all(), None)
        self.assertIs(self.shop.do_all(watch=lambda *more: called.append(more)), None)
        self.assertEqual(called, [])
        self.check_unchanged()

    def test_what_is_no_deed(self):
        called = []
        for value in NO_DEEDS + no_tuples():
            for index in range(3):
                deeds = [SAME, ("drop", 99), SAME]
                deeds[index] = value
                with self.assertRaises(InvalidDeed) as caught:
                    self.shop.do_all(*deeds, None, watch=lambda *more: called.append(more))
                self.assertEqual(caught.exception.index, index)
        self.assertEqual(called, [])
        self.check_unchanged()

    def test_the_first_error(self):
        called = []
        for deeds, error in (
            ((SAME, ("drop", 99), ("put", 0, None)), InvalidNumber), ((("put", 0, None), ("drop", 99)), InvalidRules),
            ((SAME, ("exchange", "add", 0, 1), ("drop", 99)), Refused), ((SAME,) * 100, TooManyDeeds),
            ((SAME, ("drop", 5), ("drop", 5)), MissingRule),
        ):
            called.clear()
            with self.assertRaises(error):
                self.shop.do_all(*deeds, watch=lambda shop, index: called.append(index))
            self.assertEqual(called, list(range(len(called))))
            self.check_unchanged()
        self.assertRaises(TooManyDeeds, self.shop.do_all, *(SAME,) * 101)
        self.shop.do_all(*(SAME,) * 99)
        self.assertEqual(len(self.shop), 100)
        self.shop.do_all()
        self.assertRaises(TooManyDeeds, self.shop.do_all, SAME)

    def test_watch(self):
        seen = []

        def watch(shop, index):
            self.assertIs(shop, self.shop)
            self.assertIs(shop.busy, True)
            seen.append((index, len(shop), shop.log[-1], shop.writer))

        deeds = (("drop", 5), SAME, PUT)
        self.shop.do_all(*deeds, watch=watch)
        self.assertEqual([row[:3] for row in seen], [(0, 2, deeds[0]), (1, 3, deeds[1]), (2, 4, deeds[2])])
        self.assertTrue(seen[0][3] == moding_writer())
        self.assertTrue(seen[2][3] == self.before[0])
        self.assertIs(self.shop.busy, False)
        # A deed that stands behind a word for it is no watch: it is taken for a deed.
        self.assertRaises(InvalidDeed, self.shop.do_all, SAME, watch)

    def test_an_exception_of_the_watch(self):
        for error in (ValueError("no"), Busy(), KeyboardInterrupt(), Refused(1, 2), GeneratorExit(), StopIteration()):
            for last in range(3):
                def watch(shop, index):
                    if index == last:
                        raise error
                with self.assertRaises(type(error)) as caught:
                    self.shop.do_all(("drop", 5), SAME, PUT, watch=watch)
                self.assertIs(caught.exception, error)
                self.check_unchanged()

    def test_busy(self):
        calls = (
            lambda: self.shop.do(SAME), lambda: self.shop.do(None), lambda: self.shop.do_all(), lambda: self.shop.do_all(None),
            lambda: self.shop.undo(), lambda: self.shop.trial(), lambda: attempt(self.shop, lambda shop: 1),
        )

        def watch(shop, index):
            for call in calls:
                self.assertRaises(Busy, call)
            self.assertIs(shop.busy, True)

        self.shop.do_all(("drop", 5), SAME, watch=watch)
        self.assertEqual(self.shop.log, (PUT, ("drop", 5), SAME))
        self.assertIs(self.shop.busy, False)
        for call in calls:
            try:
                call()
            except InvalidDeed:
                pass

    def test_another_workshop_is_not_busy(self):
        other = Workshop(full_writer())
        self.shop.do_all(SAME, SAME, watch=lambda shop, index: other.do(SAME))
        self.assertEqual((len(self.shop), len(other)), (3, 2))


class Trials(unittest.TestCase):
    def setUp(self):
        self.shop = Workshop(moding_writer())
        self.shop.do(PUT)
        self.before = state_of(self.shop)

    def check_unchanged(self):
        self.assertTrue(state_of(self.shop) == self.before)

    def test_a_trial(self):
        with self.shop.trial() as same:
            self.assertIs(same, self.shop)
            self.assertIs(same.busy, False)
            same.do(("drop", 5))
            same.do(("lean",))
            self.assertEqual((len(self.shop), len(self.shop.writer.rules)), (3, 6))
        self.check_unchanged()

    def test_exceptions_go_on(self):
        for error in (ValueError("no"), KeyboardInterrupt(), NothingToUndo()):
            with self.assertRaises(type(error)) as caught:
                with self.shop.trial() as same:
                    same.do(("drop", 5))
                    raise error
            self.assertIs(caught.exception, error)
            self.check_unchanged()
        with self.assertRaises(Refused):
            with self.shop.trial() as same:
                same.undo()
                same.do(("using", "add", "mul"))
        self.check_unchanged()

    def test_undo_of_earlier_deeds(self):
        with self.shop.trial() as same:
            same.undo()
            self.assertEqual((same.log, len(same.writer.rules)), ((), 6))
            self.assertRaises(NothingToUndo, same.undo)
            same.do(SAME)
        self.check_unchanged()
        self.shop.undo()
        self.assertTrue(self.shop.writer == moding_writer())

    def test_trials_within_trials(self):
        with self.shop.trial() as same:
            same.do(SAME)
            with same.trial() as again:
                again.undo()
                again.undo()
                self.assertEqual(len(again), 0)
                with again.trial():
                    again.do_all(SAME, SAME, SAME)
                self.assertEqual(len(again), 0)
            self.assertEqual(same.log, (PUT, SAME))
            same.do(SAME)
        self.check_unchanged()

    def test_a_trial_begins_with_its_block(self):
        block = self.shop.trial()
        self.shop.do(SAME)
        for _ in range(2):
            with block:
                self.shop.do_all(SAME, SAME)
                self.assertEqual(len(self.shop), 4)
            self.assertEqual(self.shop.log, (PUT, SAME))

    def test_do_all_within(self):
        with self.shop.trial() as same:
            same.do_all(SAME, SAME, watch=lambda shop, index: self.assertRaises(Busy, shop.trial))
            self.assertEqual(len(same), 3)
        self.check_unchanged()

    def test_attempt(self):
        def act(shop):
            self.assertIs(shop, self.shop)
            shop.do(("drop", 5))
            return (len(shop), shop.writer)

        many, writer = attempt(self.shop, act)
        self.assertEqual(many, 2)
        self.assertTrue(writer == moding_writer())
        self.check_unchanged()
        self.assertIs(attempt(act=lambda shop: None, workshop=self.shop), None)
        self.assertEqual(attempt(self.shop, len), 1)
        self.assertEqual(attempt(self.shop, lambda shop: attempt(shop, lambda same: same.undo()) or len(shop)), 1)
        with self.assertRaises(ZeroDivisionError):
            attempt(self.shop, lambda shop: shop.do(SAME) or 1 // 0)
        self.check_unchanged()
        self.assertIs(first_unlike(self.shop.writer, self.shop.first), None)


if __name__ == "__main__":
    unittest.main()
