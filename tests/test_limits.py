import unittest

from onestepcourt import limits

VALUES = {
    "DEPTH": 8,
    "MOST_WORD": 65535,
    "MOST_INPUTS": 16,
    "MOST_TOLD": 16,
    "MOST_LEVEL": 8,
    "MOST_PLAYERS": 6,
    "MOST_LATE": 9,
    "MOST_TEXT": 8000,
    "MOST_NAME": 12,
    "MOST_SIZE": 64,
    "MOST_TABLES": 8,
    "MOST_FUNCTIONS": 8,
    "MOST_PARAMS": 4,
    "MOST_NESTED": 12,
    "MOST_OPEN": 16,
}


class Limits(unittest.TestCase):
    def test_each_name_has_its_value(self):
        for name, value in VALUES.items():
            with self.subTest(name):
                self.assertEqual(getattr(limits, name), value)
                self.assertIs(type(getattr(limits, name)), int)

    def test_there_are_no_other_names(self):
        self.assertEqual({name for name in vars(limits) if not name.startswith("_")}, set(VALUES))


if __name__ == "__main__":
    unittest.main()
