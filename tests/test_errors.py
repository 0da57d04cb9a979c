import unittest

from fivetrees import errors
from fivetrees.errors import LimitError, StateError, TreeError
from tests.values import no_names

FAMILIES = {
    TreeError: (ValueError, {
        "NotASchema": ("value",),
        "NotATree": ("value",),
        "NotAWriter": ("value",),
        "NotAPattern": ("value",),
        "UnknownKind": ("value",),
        "UnknownConstructor": ("value",),
        "UnknownMode": ("value",),
        "InvalidText": ("value",),
        "InvalidPath": ("value",),
        "InvalidTree": ("value",),
        "InvalidNumber": ("value",),
        "InvalidStart": ("value",),
        "InvalidString": ("value",),
        "InvalidLine": ("value",),
        "InvalidKinds": ("index",),
        "InvalidConstructors": ("index",),
        "InvalidFields": ("index",),
        "InvalidRows": ("index",),
        "InvalidRules": ("index",),
        "InvalidSigns": ("index",),
        "InvalidGood": ("index",),
        "InvalidMoves": ("index",),
        "InvalidDeed": ("index",),
        "InvalidWriters": ("index",),
    }),
    StateError: (LookupError, {
        "EmptyKind": ("kind",),
        "MissingRule": ("mode", "name"),
        "Unlike": ("tree",),
        "Refused": ("deed", "tree"),
        "OtherSchema": (),
        "NothingToUndo": (),
        "Busy": (),
    }),
    LimitError: (ArithmeticError, {
        "TooManyRows": ("limit",),
        "TooManyJoins": ("limit",),
        "TooManyFaces": ("limit",),
        "TooManyDeeds": ("limit",),
        "TooLong": ("found",),
    }),
}
ROOTS = (ValueError, LookupError, ArithmeticError)


def listed():
    """Each class below a base: the class, its base, the built-in class behind it, its attributes."""
    for base, (root, classes) in FAMILIES.items():
        for name, attributes in classes.items():
            yield getattr(errors, name), base, root, attributes


def all_classes():
    return [value for value in vars(errors).values() if isinstance(value, type)]


def others():
    """A value for each attribute, no two the same, whatever the values are."""
    values = no_names()
    return zip(values, reversed(values))


class Errors(unittest.TestCase):
    def test_the_classes_are_the_listed_ones(self):
        names = list(FAMILIES) + [found for found, _, _, _ in listed()]
        self.assertEqual({one.__name__ for one in names}, {one.__name__ for one in all_classes()})
        self.assertEqual(len(names), 39)

    def test_each_class_is_defined_in_its_file(self):
        for one in all_classes():
            self.assertEqual(one.__module__, "fivetrees.errors")

    def test_attributes_by_position(self):
        for one, _, _, attributes in listed():
            for pair in others():
                made = one(*pair[:len(attributes)])
                for name, value in zip(attributes, pair):
                    self.assertIs(getattr(made, name), value)

    def test_attributes_by_name(self):
        for one, _, _, attributes in listed():
            for pair in others():
                given = dict(zip(attributes, pair))
                made = one(**given)
                for name, value in given.items():
                    self.assertIs(getattr(made, name), value)

    def test_attributes_by_position_and_by_name(self):
        missing = errors.MissingRule("top", name="one")
        self.assertEqual((missing.mode, missing.name), ("top", "one"))
        refused = errors.Refused(("lean",), tree=None)
        self.assertEqual((refused.deed, refused.tree), (("lean",), None))

    def test_attributes_are_the_listed_ones(self):
        for one, _, _, attributes in listed():
            made = one(*[None for _ in attributes])
            self.assertEqual(set(vars(made)), set(attributes))

    def test_attributes_must_be_given(self):
        for one, _, _, attributes in listed():
            for many in range(len(attributes)):
                self.assertRaises(TypeError, one, *range(many))
            if attributes:
                self.assertRaises(TypeError, one, *range(len(attributes) + 1))

    def test_the_families(self):
        for one, base, root, attributes in listed():
            made = one(*[None for _ in attributes])
            with self.subTest(name=one.__name__):
                self.assertEqual({c for c in all_classes() if isinstance(made, c)}, {one, base})
                self.assertEqual([r for r in ROOTS if isinstance(made, r)], [root])
                self.assertEqual(one.__bases__, (base,))

    def test_the_bases(self):
        for base, (root, _) in FAMILIES.items():
            self.assertEqual({c for c in all_classes() if isinstance(base(), c)}, {base})
            self.assertEqual([r for r in ROOTS if isinstance(base(), r)], [root])
            self.assertEqual(base.__bases__, (root,))

    def test_errors_equal_only_themselves(self):
        for one, _, _, attributes in listed():
            values = [None for _ in attributes]
            made, again = one(*values), one(*values)
            self.assertTrue(made == made)
            self.assertFalse(made != made)
            self.assertFalse(made == again)
            self.assertTrue(made != again)
            self.assertTrue(bool(made))

    def test_errors_are_raised_and_caught(self):
        for one, base, root, attributes in listed():
            for caught in (one, base, root):
                with self.assertRaises(caught):
                    raise one(*[None for _ in attributes])


if __name__ == "__main__":
    unittest.main()
