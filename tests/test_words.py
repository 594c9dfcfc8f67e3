import itertools
import random
import unittest

from onestepcourt.words import SIGNS, op

DRAWN = random.Random(501)
WORDS = (0, 1, 2, 3, 7, 255, 256, 1000, 32767, 32768, 65534, 65535) + tuple(DRAWN.randint(0, 65535) for _ in range(20))

EXPECTED = {
    "+": lambda a, b: (a + b) % 65536,
    "-": lambda a, b: (a - b) % 65536,
    "*": lambda a, b: (a * b) % 65536,
    "/": lambda a, b: None if b == 0 else (a - a % b) // b,
    "mod": lambda a, b: None if b == 0 else a - (a // b) * b,
    "==": lambda a, b: int(a == b),
    "!=": lambda a, b: int(a != b),
    "<": lambda a, b: int(a < b),
    "<=": lambda a, b: int(a <= b),
    ">": lambda a, b: int(a > b),
    ">=": lambda a, b: int(a >= b),
}

BY_HAND = (
    ("+", 3, 4, 7), ("+", 0, 0, 0), ("+", 65535, 0, 65535), ("+", 65535, 1, 0), ("+", 65535, 65535, 65534),
    ("-", 9, 4, 5), ("-", 4, 4, 0), ("-", 0, 1, 65535), ("-", 0, 65535, 1), ("-", 65535, 65535, 0),
    ("*", 6, 7, 42), ("*", 65535, 0, 0), ("*", 256, 256, 0), ("*", 65535, 65535, 1), ("*", 65535, 2, 65534),
    ("/", 17, 5, 3), ("/", 4, 5, 0), ("/", 0, 5, 0), ("/", 65535, 1, 65535), ("/", 65535, 65535, 1),
    ("/", 65534, 65535, 0), ("/", 0, 0, None), ("/", 1, 0, None), ("/", 65535, 0, None),
    ("mod", 17, 5, 2), ("mod", 4, 5, 4), ("mod", 0, 5, 0), ("mod", 65535, 1, 0), ("mod", 65535, 65535, 0),
    ("mod", 65534, 65535, 65534), ("mod", 0, 0, None), ("mod", 1, 0, None), ("mod", 65535, 0, None),
    ("==", 4, 4, 1), ("==", 4, 5, 0), ("==", 5, 4, 0), ("==", 0, 0, 1), ("==", 65535, 65535, 1),
    ("!=", 4, 4, 0), ("!=", 4, 5, 1), ("!=", 5, 4, 1), ("!=", 0, 0, 0), ("!=", 65535, 0, 1),
    ("<", 4, 4, 0), ("<", 4, 5, 1), ("<", 5, 4, 0), ("<", 0, 65535, 1), ("<", 65535, 0, 0),
    ("<=", 4, 4, 1), ("<=", 4, 5, 1), ("<=", 5, 4, 0), ("<=", 0, 65535, 1), ("<=", 65535, 0, 0),
    (">", 4, 4, 0), (">", 4, 5, 0), (">", 5, 4, 1), (">", 0, 65535, 0), (">", 65535, 0, 1),
    (">=", 4, 4, 1), (">=", 4, 5, 0), (">=", 5, 4, 1), (">=", 0, 65535, 0), (">=", 65535, 0, 1),
)


class Signs(unittest.TestCase):
    def test_the_signs(self):
        self.assertEqual(SIGNS, ("+", "-", "*", "/", "mod", "==", "!=", "<", "<=", ">", ">="))

    def test_results_by_hand(self):
        for sign, a, b, result in BY_HAND:
            with self.subTest(sign=sign, a=a, b=b):
                self.assertEqual(op(sign, a, b), result)

    def test_results(self):
        for sign in SIGNS:
            for a, b in itertools.product(WORDS, WORDS):
                self.assertEqual(op(sign, a, b), EXPECTED[sign](a, b), (sign, a, b))

    def test_results_are_words_and_no_truth_values(self):
        for sign in SIGNS:
            for a, b in itertools.product(WORDS, WORDS):
                result = op(sign, a, b)
                if result is not None:
                    self.assertIs(type(result), int, (sign, a, b))
                    self.assertTrue(0 <= result <= 65535, (sign, a, b))

    def test_there_is_none_exactly_behind_division_by_0(self):
        for sign in SIGNS:
            for a, b in itertools.product(WORDS, WORDS):
                self.assertEqual(op(sign, a, b) is None, sign in ("/", "mod") and b == 0, (sign, a, b))


if __name__ == "__main__":
    unittest.main()
