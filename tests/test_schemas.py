import itertools
import unittest

from fivetrees.errors import EmptyKind, InvalidConstructors, InvalidKinds, InvalidText
from fivetrees.errors import UnknownConstructor, UnknownKind
from fivetrees.schemas import Schema, is_name
from tests.examples import EXAMPLES, BOUGHT, LEAST, MOST, SUMS, has_tree
from tests.values import Alike, Broken, no_names, no_strings, no_tuples

LEAF = ("leaf", "num", ())


class Names(unittest.TestCase):
    def test_names(self):
        for name in ("a", "z", "a0", "z9", "m5n", "abcdefgh", "a2345678", "zzzzzzzz", "kind", "make", "none", "e1"):
            self.assertIs(is_name(name), True, name)

    def test_each_sign_at_each_place(self):
        letters = "abcdefghijklmnopqrstuvwxyz"
        signs = [chr(code) for code in range(0x250)] + list("\u0430\u0661\u2028\uff41\uff11\ud800\U0001d41a")
        for sign in signs:
            self.assertIs(is_name(sign), sign in letters, ascii(sign))
            self.assertIs(is_name(sign + "bcdefgh"), sign in letters, ascii(sign))
            for place in range(1, 8):
                name = "abcdefgh"[:place] + sign + "abcdefgh"[place + 1:]
                self.assertIs(is_name(name), sign in letters + "0123456789", ascii(name))
            self.assertIs(is_name("abcdefgh" + sign), False)

    def test_lengths(self):
        for length in range(30):
            self.assertIs(is_name("a" * length), 1 <= length <= 8)

    def test_what_is_no_name(self):
        for value in no_names():
            self.assertIs(is_name(value), False)

    def test_by_name(self):
        self.assertIs(is_name(value="num"), True)
        self.assertIs(is_name(value=1), False)


class Right(unittest.TestCase):
    def test_properties(self):
        for kinds, constructors in EXAMPLES:
            schema = Schema(kinds, constructors)
            self.assertEqual(schema.kinds, kinds)
            self.assertEqual(schema.constructors, constructors)
            self.assertEqual(schema.root, kinds[0])
            self.assertEqual(schema.names, tuple(name for name, _, _ in constructors))
            for several in (schema.kinds, schema.constructors, schema.names):
                self.assertIs(type(several), tuple)

    def test_properties_of_sums(self):
        schema = Schema(*SUMS)
        self.assertEqual(schema.kinds, ("num",))
        self.assertEqual(schema.root, "num")
        self.assertEqual(schema.names, ("one", "add", "mul"))
        self.assertEqual(schema.constructors[1], ("add", "num", ("num", "num")))

    def test_by_name(self):
        for kinds, constructors in EXAMPLES:
            schema = Schema(kinds=kinds, constructors=constructors)
            self.assertEqual((schema.kinds, schema.constructors), (kinds, constructors))
            schema = Schema(constructors=constructors, kinds=kinds)
            self.assertEqual((schema.kinds, schema.constructors), (kinds, constructors))
            schema = Schema(kinds, constructors=constructors)
            self.assertEqual((schema.kinds, schema.constructors), (kinds, constructors))

    def test_of_kind(self):
        for kinds, constructors in EXAMPLES:
            schema = Schema(kinds, constructors)
            for kind in kinds:
                names = tuple(name for name, its_kind, _ in constructors if its_kind == kind)
                self.assertEqual(schema.of_kind(kind), names)
                self.assertEqual(schema.of_kind(kind=kind), names)
                self.assertIs(type(schema.of_kind(kind)), tuple)
        self.assertEqual(Schema(*MOST).of_kind("item"), ("list", "z9"))
        self.assertEqual(Schema(*MOST).of_kind("a"), ("a",))

    def test_constructor_and_place(self):
        for kinds, constructors in EXAMPLES:
            schema = Schema(kinds, constructors)
            for place, constructor in enumerate(constructors):
                self.assertEqual(schema.constructor(constructor[0]), constructor)
                self.assertEqual(schema.constructor(name=constructor[0]), constructor)
                self.assertEqual(schema.place(constructor[0]), place)
                self.assertEqual(schema.place(name=constructor[0]), place)
                self.assertIs(type(schema.place(constructor[0])), int)

    def test_names_that_are_not_the_same_string(self):
        schema = Schema(*SUMS)
        self.assertEqual(schema.place("".join(["a", "dd"])), 1)
        self.assertEqual(schema.of_kind("".join(["n", "um"])), ("one", "add", "mul"))
        self.assertTrue("".join(["a", "dd"]) in schema)

    def test_str(self):
        text = "kind num\nmake one num\nmake add num num num\nmake mul num num num"
        self.assertEqual(str(Schema(*SUMS)), text)
        self.assertEqual(str(Schema(*LEAST)), "kind a\nmake b a")
        text = "kind list\nkind item\nmake nil list\nmake put list item list\nmake dot item"
        self.assertEqual(str(Schema(*BOUGHT)), text)

    def test_len_and_truth(self):
        self.assertEqual([len(Schema(*example)) for example in EXAMPLES], [3, 1, 6, 3])
        for example in EXAMPLES:
            self.assertIs(bool(Schema(*example)), True)

    def test_in(self):
        for kinds, constructors in EXAMPLES:
            schema = Schema(kinds, constructors)
            names = [name for name, _, _ in constructors]
            for name in names:
                self.assertIs(name in schema, True)
                self.assertIs(name not in schema, False)
            for kind in kinds:
                self.assertIs(kind in schema, kind in names)
            for value in no_names() + list(constructors) + ["two", "on", "ones", "One", schema]:
                self.assertIs(value in schema, False)
                self.assertIs(value not in schema, True)

    def test_repr(self):
        self.assertEqual(repr(Schema(*SUMS)), "Schema(1 kinds, 3 constructors)")
        self.assertEqual(repr(Schema(*LEAST)), "Schema(1 kinds, 1 constructors)")
        self.assertEqual(repr(Schema(*MOST)), "Schema(4 kinds, 6 constructors)")

    def test_equal_calls_return_equal_results(self):
        schema = Schema(*MOST)
        for _ in range(2):
            self.assertEqual(schema.of_kind("item"), schema.of_kind("item"))
            self.assertEqual(schema.constructor("nil"), schema.constructor("nil"))
            self.assertEqual((str(schema), repr(schema)), (str(schema), repr(schema)))
            self.assertEqual((schema.kinds, schema.constructors), MOST)

    def test_the_methods_stand_in_the_class(self):
        listed = ["__init__", "read", "kinds", "constructors", "root", "names", "of_kind", "constructor", "place"]
        for name in listed + ["__str__", "__len__", "__contains__", "__eq__", "__repr__"]:
            self.assertIn(name, vars(Schema))
        self.assertEqual((Schema.__module__, is_name.__module__), ("fivetrees.schemas", "fivetrees.schemas"))
        self.assertIsInstance(vars(Schema)["read"], staticmethod)

    def test_properties_are_not_assigned(self):
        schema = Schema(*SUMS)
        for name in ("kinds", "constructors", "root", "names"):
            with self.assertRaises(AttributeError):
                setattr(schema, name, ())
        self.assertEqual((schema.kinds, schema.constructors), SUMS)


class Equality(unittest.TestCase):
    def check_equal(self, one, other):
        self.assertIs(one == other, True)
        self.assertIs(one != other, False)

    def check_unequal(self, one, other):
        self.assertIs(one == other, False)
        self.assertIs(one != other, True)
        self.assertIs(other == one, False)
        self.assertIs(other != one, True)

    def test_equal_ones(self):
        for example in EXAMPLES:
            schema = Schema(*example)
            self.check_equal(schema, schema)
            self.check_equal(schema, Schema(*example))

    def test_different_ones(self):
        for one, other in itertools.permutations(EXAMPLES, 2):
            self.check_unequal(Schema(*one), Schema(*other))

    def test_ones_that_differ_in_one_thing(self):
        kinds, constructors = BOUGHT
        nil, put, dot = constructors
        changed = [
            (("item", "list"), constructors),
            (("list", "item", "more"), constructors + (("more", "more", ()),)),
            (kinds, constructors[::-1]),
            (kinds, (put, nil, dot)),
            (kinds, constructors + (("two", "item", ()),)),
            (kinds, (nil, dot)),
            (kinds, (("null", "list", ()), put, dot)),
            (kinds, (("nil", "item", ()), ("put", "list", ("item", "item")), dot)),
            (kinds, (nil, ("put", "item", ("item", "list")), dot)),
            (kinds, (nil, ("put", "list", ("list", "item")), dot)),
            (kinds, (nil, ("put", "list", ("list", "list")), dot)),
            (kinds, (nil, ("put", "list", ("item",)), dot)),
            (kinds, (nil, ("put", "list", ("item", "list", "list")), dot)),
        ]
        for other in changed:
            self.check_unequal(Schema(*BOUGHT), Schema(*other))

    def test_a_further_kind_alone(self):
        leaf = ("leaf", "a", ())
        self.check_unequal(Schema(("a", "b"), (leaf, ("z", "b", ()))), Schema(("a",), (leaf,)))

    def test_other_values(self):
        for example in EXAMPLES:
            schema = Schema(*example)
            others = [value for value in no_strings() if not isinstance(value, (Alike, Broken))]
            others += [example, example[0], example[1], str(schema), repr(schema), Schema, len(schema)]
            for value in others:
                self.check_unequal(schema, value)
            for value in (Alike(), Broken()):
                self.assertIs(schema == value, False)
                self.assertIs(schema != value, True)


class RefusedKinds(unittest.TestCase):
    def check(self, index, kinds, constructors=(LEAF,)):
        with self.assertRaises(InvalidKinds) as caught:
            Schema(kinds, constructors)
        self.assertIs(type(caught.exception.index), type(index))
        self.assertEqual(caught.exception.index, index)
        with self.assertRaises(InvalidKinds) as caught:
            Schema(constructors=constructors, kinds=kinds)
        self.assertEqual(caught.exception.index, index)

    def test_no_tuple(self):
        for value in no_tuples():
            self.check(None, value)
        self.check(None, ["num"])
        self.check(None, "num")
        self.check(None, {"num": 1})

    def test_number_of_elements(self):
        self.check(None, ())
        self.check(None, ("a", "b", "c", "d", "e"))
        self.check(None, tuple("abcdefghijklmnopqrstuvwxyz"))
        self.check(None, (1, 2, 3, 4, 5))
        self.check(None, ("a",) * 5)

    def test_elements_that_are_no_names(self):
        for value in no_names():
            self.check(0, (value,))
            self.check(0, (value, "b", "c", "d"))
            self.check(1, ("num", value))
            self.check(3, ("a", "b", "c", value))

    def test_elements_that_stand_twice(self):
        self.check(1, ("num", "num"))
        self.check(2, ("a", "b", "a"))
        self.check(3, ("a", "b", "c", "b"))
        self.check(1, ("a", "a", "a", "a"))

    def test_the_first_wrong_one(self):
        self.check(1, ("a", 1, "a", None))
        self.check(1, ("a", "a", 1))
        self.check(0, (["a"], "b", "b"))
        self.check(0, (True, True))

    def test_ahead_of_the_constructors(self):
        for constructors in no_tuples() + [(), (1,), (("one", "two", ()),), (("one", "num", ("num",)),)]:
            self.check(0, ("Num",), constructors)
            self.check(None, (), constructors)


class RefusedConstructors(unittest.TestCase):
    def check(self, index, constructors, kinds=("num",)):
        with self.assertRaises(InvalidConstructors) as caught:
            Schema(kinds, constructors)
        self.assertIs(type(caught.exception.index), type(index))
        self.assertEqual(caught.exception.index, index)
        with self.assertRaises(InvalidConstructors) as caught:
            Schema(constructors=constructors, kinds=kinds)
        self.assertEqual(caught.exception.index, index)

    def check_element(self, value):
        """The constructor is wrong by itself, wherever it stands."""
        self.check(0, (value,))
        self.check(0, (value, LEAF))
        self.check(1, (LEAF, value))
        self.check(1, (LEAF, value, LEAF))
        five = tuple((f"leaf{k}", "num", ()) for k in range(5))
        self.check(5, five + (value,))

    def test_no_tuple(self):
        for value in no_tuples():
            self.check(None, value)
        self.check(None, [LEAF])
        self.check(None, {LEAF: LEAF})

    def test_number_of_elements(self):
        self.check(None, ())
        self.check(None, tuple((f"leaf{k}", "num", ()) for k in range(7)))
        self.check(None, (1, 2, 3, 4, 5, 6, 7))
        self.check(None, (LEAF,) * 7)

    def test_elements_that_are_no_triples(self):
        for value in no_tuples():
            self.check_element(value)
        for value in [(), ("one",), ("one", "num"), ("one", "num", (), ()), ["one", "num", ()], (LEAF,)]:
            self.check_element(value)

    def test_names(self):
        for value in no_names():
            self.check_element((value, "num", ()))

    def test_kinds(self):
        for value in no_names() + ["two", "nu", "nums", "one", ("num",), ["num"]]:
            self.check_element(("one", value, ()))

    def test_fields(self):
        for value in no_tuples():
            self.check_element(("one", "num", value))
        for value in [[], ["num"], "num", ("num",) * 4, ("num",) * 100]:
            self.check_element(("one", "num", value))

    def test_elements_of_fields(self):
        for value in no_names() + ["two", "nu", "nums", "one", ("num",), ["num"]]:
            for fields in [(value,), (value, "num"), ("num", value), ("num", "num", value), ("num", value, "num")]:
                self.check_element(("one", "num", fields))

    def test_names_that_stand_twice(self):
        self.check(1, (LEAF, LEAF))
        self.check(1, (LEAF, ("leaf", "num", ("num",))))
        other = ("two", "num", ())
        self.check(2, (LEAF, other, ("two", "num", ("num",)), LEAF))
        self.check(5, tuple((f"leaf{k}", "num", ()) for k in range(5)) + (("leaf0", "num", ()),))
        self.check(1, (("leaf", "num", ()), ("leaf", "b", ())), ("num", "b"))

    def test_the_first_wrong_one(self):
        self.check(1, (LEAF, LEAF, 5))
        self.check(1, (LEAF, 5, LEAF))
        self.check(0, (("leaf", "num", ("leaf",)), 5, LEAF))

    def test_true_and_false(self):
        for value in (True, False):
            self.check_element(value)
            self.check_element((value, "num", ()))
            self.check_element(("one", value, ()))
            self.check_element(("one", "num", value))
            self.check_element(("one", "num", (value,)))

    def test_a_kind_may_be_the_name_of_a_constructor(self):
        schema = Schema(("num",), (("num", "num", ()),))
        self.assertEqual((schema.names, schema.kinds), (("num",), ("num",)))

    def test_ahead_of_the_kinds_without_a_tree(self):
        self.check(1, (("loop", "num", ("num",)), LEAF[:2]))
        self.check(1, (("leaf", "b", ()), ("leaf", "b", ())), ("num", "b"))
        self.check(None, (), ("num", "b"))

    def test_what_is_passed_stays(self):
        fields = ["num"]
        wrong = ["one", "num", fields]
        self.check(0, (wrong,))
        self.assertEqual(wrong, ["one", "num", ["num"]])
        self.assertIs(wrong[2], fields)
        several = [LEAF, LEAF]
        self.check(None, several)
        self.assertEqual(several, [LEAF, LEAF])
        schema = Schema(*SUMS)
        self.check(1, schema.constructors[:1] * 2)
        self.assertEqual((schema.kinds, schema.constructors), SUMS)


class EmptyKinds(unittest.TestCase):
    def check(self, kind, kinds, constructors):
        with self.assertRaises(EmptyKind) as caught:
            Schema(kinds, constructors)
        self.assertEqual(caught.exception.kind, kind)

    def test_no_constructor_at_all(self):
        self.check("b", ("a", "b"), (("leaf", "a", ()),))
        self.check("a", ("a", "b"), (("leaf", "b", ()),))
        self.check("c", ("a", "b", "c", "d"), (("leaf", "a", ()), ("more", "b", ("a",))))

    def test_none_that_can_be_finished(self):
        self.check("a", ("a",), (("loop", "a", ("a",)),))
        self.check("a", ("a", "b"), (("one", "a", ("b",)), ("two", "b", ("a",))))
        self.check("b", ("a", "b", "c"), (("leaf", "a", ()), ("one", "b", ("c", "a")), ("two", "c", ("b",))))
        self.check("a", ("a", "b"), (("leaf", "b", ()), ("loop", "a", ("b", "a"))))
        self.check("a", ("a", "b"), (("loop", "a", ("a", "b")), ("leaf", "b", ())))

    def test_long_ways_to_a_leaf(self):
        kinds = ("a", "b", "c", "d")
        down = (("one", "a", ("b",)), ("two", "b", ("c",)), ("three", "c", ("d",)), ("four", "d", ()))
        for constructors in itertools.permutations(down):
            self.assertEqual(Schema(kinds, constructors).kinds, kinds)
            self.assertEqual(Schema(kinds[::-1], constructors).root, "d")
        self.check("a", kinds, down[:3] + (("four", "d", ("a",)),))

    def test_every_small_schema(self):
        kinds = ("a", "b", "c")
        fields = [row for many in range(3) for row in itertools.product(kinds, repeat=many)]
        makes = [(kind, row) for kind in kinds for row in fields]
        for chosen in itertools.product(makes, repeat=3):
            constructors = tuple((f"c{k}", *make) for k, make in enumerate(chosen))
            empty = [kind for kind in kinds if not has_tree(kind, constructors)]
            try:
                Schema(kinds, constructors)
                found = []
            except EmptyKind as error:
                found = [error.kind]
            self.assertEqual(found, empty[:1])


class Unknown(unittest.TestCase):
    def test_of_kind(self):
        for example in EXAMPLES:
            schema = Schema(*example)
            strange = [name for name in schema.names if name not in schema.kinds]
            for value in no_names() + strange + ["nope", "nu", "nums", schema.kinds, schema]:
                with self.assertRaises(UnknownKind) as caught:
                    schema.of_kind(value)
                self.assertIs(caught.exception.value, value)
                with self.assertRaises(UnknownKind) as caught:
                    schema.of_kind(kind=value)
                self.assertIs(caught.exception.value, value)

    def test_constructor_and_place(self):
        for example in EXAMPLES:
            schema = Schema(*example)
            strange = [kind for kind in schema.kinds if kind not in schema.names]
            strange += list(schema.constructors)
            for value in no_names() + strange + ["nope", "on", "ones", schema.names, schema]:
                for method in (schema.constructor, schema.place):
                    with self.assertRaises(UnknownConstructor) as caught:
                        method(value)
                    self.assertIs(caught.exception.value, value)
                    with self.assertRaises(UnknownConstructor) as caught:
                        method(name=value)
                    self.assertIs(caught.exception.value, value)

    def test_nothing_has_changed(self):
        schema = Schema(*SUMS)
        self.assertRaises(UnknownKind, schema.of_kind, "nope")
        self.assertRaises(UnknownConstructor, schema.place, "nope")
        self.assertRaises(UnknownConstructor, schema.constructor, "nope")
        self.assertRaises(InvalidText, Schema.read, "nope")
        self.assertEqual(schema, Schema(*SUMS))


if __name__ == "__main__":
    unittest.main()
