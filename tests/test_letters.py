import unittest

from reckoning import ALL_BITS, MODULI, NO_INTEGERS
from onestepcourt.digests import Digests
from onestepcourt.letters import FIRST_PREFIX, is_letter
from onestepcourt.limits import MOST_INPUTS, MOST_LEVEL, MOST_TOLD
from onestepcourt.machine import MOST_IMAGE

REGISTERS = (9, 300, 7, 1, 20, 2)
OPENING = (REGISTERS, 5, ())
LETTERS = {
    "ask": ("ask", (1, 65535, 0), (4, 5), 3),
    "again": ("ask", (1, 65535, 0), ("answer", 2), 3),
    "claim": ("claim", 1, 20, 21, (22, 23), REGISTERS, 24, (7, 8)),
    "halve": ("halve", 1, 2, 3, 5, 30, 31, 32, 33, 34, (35,)),
    "prove": ("prove", 1, 3, 5, 30, 31, OPENING),
}
# The places of the parts of each kind.
DIGESTS = {"ask": (), "again": (), "claim": (2, 3, 6), "halve": (4, 5, 6, 7, 8, 9), "prove": (3, 4, 5)}
NUMBERS = {"ask": (), "again": (), "claim": (1,), "halve": (1, 2, 3), "prove": (1, 2)}
PATHS = {"ask": (), "again": (), "claim": (4,), "halve": (10,), "prove": ()}
ROWS = {"ask": (1, 2), "again": (1,), "claim": (7,), "halve": (), "prove": ()}
HUGE = 10 ** 30


class Hostile:
    """A value whose comparisons and lengths fail."""

    def fail(self, *others):
        raise RuntimeError("asked")

    __eq__ = __ne__ = __lt__ = __le__ = __gt__ = __ge__ = __len__ = __bool__ = __iter__ = __getitem__ = fail
    __hash__ = __index__ = __int__ = __contains__ = fail


WRONG = (
    True, False, None, "", "ask", "claim", (), [], {}, {1: 2}, 0, 1, -1, 7.0, b"ask", ("ask",), ("claim",), ("halve",),
    ("prove",), (1, 2, 3), ("no",), ("Ask", (), (), 0), (("ask",), (), (), 0), (None,) * 4, ["ask", (), (), 0],
    object(), Hostile(), (Hostile(), (), (), 0), ("ask", Hostile(), Hostile(), Hostile()), len, set(),
)


def put(letter, place, value):
    return letter[:place] + (value,) + letter[place + 1:]


class IsLetter(unittest.TestCase):
    """Point 805."""

    def setUp(self):
        self.digests = Digests(61, None)

    def yes(self, *letters):
        for letter in letters:
            self.assertIs(is_letter(self.digests, letter), True, letter)

    def no(self, *letters):
        for letter in letters:
            self.assertIs(is_letter(self.digests, letter), False)

    def test_first_prefix(self):
        self.assertEqual(FIRST_PREFIX, 5)
        self.assertIs(type(FIRST_PREFIX), int)

    def test_the_letters(self):
        self.yes(*LETTERS.values())

    def test_other_values(self):
        self.no(*WRONG)

    def test_a_part_left_out(self):
        for letter in LETTERS.values():
            for place in range(len(letter)):
                self.no(letter[:place] + letter[place + 1:])

    def test_a_part_put_in(self):
        for name, letter in LETTERS.items():
            for place in range(len(letter) + 1):
                for value in (5, (), None, letter[0]):
                    self.no(letter[:place] + (value,) + letter[place:])

    def test_a_part_doubled(self):
        for letter in LETTERS.values():
            for place in range(len(letter)):
                self.no(letter[:place] + letter[place:place + 1] + letter[place:])

    def test_a_list_for_a_tuple(self):
        for letter in LETTERS.values():
            self.no(list(letter))
            for place, part in enumerate(letter):
                if isinstance(part, tuple) and part is not OPENING:
                    self.no(put(letter, place, list(part)))

    def test_wrong_numbers_and_digests(self):
        for name, letter in LETTERS.items():
            for place in DIGESTS[name] + NUMBERS[name]:
                for value in NO_INTEGERS + (-1, -HUGE, Hostile()):
                    self.no(put(letter, place, value))

    def test_numbers_have_no_greatest_one(self):
        for name, letter in LETTERS.items():
            for place in NUMBERS[name]:
                self.yes(put(letter, place, 0), put(letter, place, 1), put(letter, place, HUGE))

    def test_digests_at_their_bounds(self):
        for bits in ALL_BITS:
            self.digests = Digests(bits, None)
            for name, letter in LETTERS.items():
                for place in DIGESTS[name]:
                    self.yes(put(letter, place, 0), put(letter, place, MODULI[bits] - 1))
                    self.no(put(letter, place, MODULI[bits]), put(letter, place, HUGE))
                for place in PATHS[name]:
                    self.yes(put(letter, place, (0, MODULI[bits] - 1)))
                    self.no(put(letter, place, (0, MODULI[bits])))

    def test_levels_of_an_ask(self):
        for name in ("ask", "again"):
            for level in range(MOST_LEVEL + 1):
                self.yes(put(LETTERS[name], 3, level))
            for level in NO_INTEGERS + (-1, MOST_LEVEL + 1, HUGE, Hostile()):
                self.no(put(LETTERS[name], 3, level))

    def test_levels_of_a_halving(self):
        for level in (0, 1, MOST_LEVEL, MOST_LEVEL + 1, HUGE):
            self.yes(put(LETTERS["halve"], 2, level))

    def test_paths(self):
        for name, letter in LETTERS.items():
            for place in PATHS[name]:
                for path in ((), (0,), tuple(range(8)), tuple(range(9)), (1,) * 300):
                    self.yes(put(letter, place, path))
                for path in (None, 5, "", "12", {}, [], range(3), True, Hostile()):
                    self.no(put(letter, place, path))
                for item in NO_INTEGERS + (-1, Hostile()):
                    self.no(put(letter, place, (item,)), put(letter, place, (1, item)), put(letter, place, (item, 1)))

    def test_images_at_their_greatest_length(self):
        for name in ("ask", "again"):
            self.yes(put(LETTERS[name], 1, ()), put(LETTERS[name], 1, (7,) * MOST_IMAGE))
            self.no(put(LETTERS[name], 1, (7,) * (MOST_IMAGE + 1)))

    def test_rows_at_their_greatest_length(self):
        for name, place, most in (("ask", 2, MOST_INPUTS), ("claim", 7, MOST_TOLD)):
            self.yes(put(LETTERS[name], place, ()), put(LETTERS[name], place, (65535,) * most))
            self.no(put(LETTERS[name], place, (65535,) * (most + 1)))

    def test_words_of_rows(self):
        for name, letter in LETTERS.items():
            for place in ROWS[name]:
                self.yes(put(letter, place, (0,)), put(letter, place, (65535, 0)))
                for row in (None, 5, "", "12", {}, [], range(3), True, Hostile()):
                    self.no(put(letter, place, row))
                for item in NO_INTEGERS + (-1, 65536, Hostile()):
                    self.no(put(letter, place, (item,)), put(letter, place, (1, item)), put(letter, place, (item, 1, 1)))

    def test_answers_of_other_questions(self):
        for question in (0, 1, HUGE):
            self.yes(put(LETTERS["ask"], 2, ("answer", question)))
        for question in NO_INTEGERS + (-1, Hostile()):
            self.no(put(LETTERS["ask"], 2, ("answer", question)))
        for value in (("answer",), ("answer", 1, 1), ("Answer", 1), ("question", 1), (1, "answer"), ["answer", 1],
                      (Hostile(), 1), (None, 1), (("answer",), 1), ("answer", (1,)), "answer"):
            self.no(put(LETTERS["ask"], 2, value))

    def test_registers(self):
        for place, values in enumerate(((0, 255), (0, 65535), (0, 65535), (0, 6), (0, MODULI[61] - 1), (0, MOST_TOLD))):
            for value in values:
                self.yes(put(LETTERS["claim"], 5, put(REGISTERS, place, value)))
            for value in NO_INTEGERS + (-1, values[1] + 1, Hostile()):
                self.no(put(LETTERS["claim"], 5, put(REGISTERS, place, value)))
            self.no(put(LETTERS["claim"], 5, REGISTERS[:place] + REGISTERS[place + 1:]))
        for value in (None, (), REGISTERS + (0,), list(REGISTERS), 5, "", Hostile()):
            self.no(put(LETTERS["claim"], 5, value))

    def test_told_words_need_not_fit_here(self):
        for told in ((), (1,), (1, 2, 3)):
            self.yes(put(LETTERS["claim"], 7, told))

    def test_an_opening_is_any_value(self):
        deep = ()
        for _ in range(5000):
            deep = (deep,)
        for opening in NO_INTEGERS + (Hostile(), deep, OPENING, -1, HUGE):
            self.yes(put(LETTERS["prove"], 6, opening))

    def test_deep_values(self):
        deep = ()
        for _ in range(5000):
            deep = (deep,)
        circle = []
        circle.append(circle)
        for value in (deep, circle):
            self.no(value)
            for letter in LETTERS.values():
                for place in range(len(letter)):
                    if letter[place] is not OPENING:
                        self.no(put(letter, place, value))

    def test_names(self):
        for name in ("asks", "Ask", "", "deed", "claims", "ask ", 1, None, True, b"ask", ("ask",), Hostile()):
            for letter in LETTERS.values():
                self.no(put(letter, 0, name))
        for name in ("ask", "claim", "halve", "prove"):
            for letter in LETTERS.values():
                if letter[0] != name:
                    self.no(put(letter, 0, name))

    def test_no_digest_is_reckoned(self):
        class Refusing:
            def add(self, kind, text, digest):
                raise AssertionError("reckoned")

        self.digests = Digests(61, Refusing())
        self.yes(*LETTERS.values())


if __name__ == "__main__":
    unittest.main()
