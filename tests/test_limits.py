import unittest

from fivetrees import limits

NUMBERS = {
    "MOST_KINDS": 4,
    "MOST_CONSTRUCTORS": 6,
    "MOST_FIELDS": 3,
    "MOST_ROWS": 200,
    "MOST_MODES": 3,
    "MOST_RULES": 40,
    "MOST_PIECES": 9,
    "MOST_SIGNS": 20,
    "MOST_JOINS": 2000,
    "MOST_STANDS": 5,
    "MOST_MOVES": 30,
    "MOST_FACES": 60,
    "MOST_WRITTEN": 5000,
    "MOST_READ": 40,
    "MOST_LISTED": 20,
    "MOST_DEEDS": 100,
}


class Limits(unittest.TestCase):
    def test_each_number(self):
        for name, number in NUMBERS.items():
            with self.subTest(name=name):
                self.assertIs(type(getattr(limits, name)), int)
                self.assertEqual(getattr(limits, name), number)

    def test_no_other_number(self):
        self.assertEqual({name for name in vars(limits) if name.isupper()}, set(NUMBERS))


if __name__ == "__main__":
    unittest.main()
