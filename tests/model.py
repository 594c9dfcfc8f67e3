"""A machine that the tests step on their own, word by word from the table of point 304.

It keeps its state in a dict, and notes which word a step names, so that the program can be compared with it.
"""

import reckoning

NUMBERS = {
    "bad": 0, "halt": 1, "lit": 2, "load": 3, "store": 4, "loadx": 5, "storex": 6, "tox": 7, "index": 8,
    "bound": 9, "within": 10, "not": 11, "+": 12, "-": 13, "*": 14, "/": 15, "mod": 16, "==": 17, "!=": 18,
    "<": 19, "<=": 20, ">": 21, ">=": 22, "jump": 23, "zero": 24, "some": 25, "call": 26, "back": 27, "tell": 28,
}
ORDER = ("pc", "acc", "x", "mark", "out", "count")


def code(name, argument=0):
    """An instruction as a word."""
    return 1024 * NUMBERS[name] + argument


class Model:
    def __init__(self, bits, registers, words):
        self.bits = bits
        self.at = dict(zip(ORDER, registers))
        self.words = list(words)
        self.told = []

    def registers(self):
        return tuple(self.at[name] for name in ORDER)

    def root(self):
        return reckoning.root(self.bits, reckoning.leaves(self.bits, self.words))

    def digest(self):
        return reckoning.state(self.bits, self.registers() + (self.root(),))

    def instruction(self):
        return self.words[self.at["pc"]]

    def other(self):
        """The place of the other word and whether it is changed, or None."""
        number, a = divmod(self.instruction(), 1024)
        p = a % 256
        if number in (3, 8, 10, 27) or 12 <= number <= 22:
            return (p, False)
        if number == 5:
            return ((p + self.at["x"]) % 256, False)
        if number in (4, 26):
            return (p, True)
        if number == 6:
            return ((p + self.at["x"]) % 256, True)
        return None

    def step(self):
        if self.at["mark"] != 0:
            return
        number, a = divmod(self.instruction(), 1024)
        p = a % 256
        far = (p + self.at["x"]) % 256
        here = self.at["pc"]
        following = 0 if here == 255 else here + 1
        acc = self.at["acc"]
        word = self.words[p]
        if number == 0 or number > 28:
            self.at["mark"] = 6
        elif number == 1:
            self.at["mark"] = 1
        elif number == 9 and not self.at["x"] < a:
            self.at["mark"] = 3
        elif number == 10 and not self.at["x"] < word:
            self.at["mark"] = 4
        elif number in (15, 16) and word == 0:
            self.at["mark"] = 2
        elif number == 28 and self.at["count"] == 16:
            self.at["mark"] = 5
        else:
            self.at["pc"] = following
            self.go_on(number, a, p, far, following, acc, word)

    def go_on(self, number, a, p, far, following, acc, word):
        if number == 2:
            self.at["acc"] = a
        elif number == 3:
            self.at["acc"] = word
        elif number == 4:
            self.words[p] = acc
        elif number == 5:
            self.at["acc"] = self.words[far]
        elif number == 6:
            self.words[far] = acc
        elif number == 7:
            self.at["x"] = acc
        elif number == 8:
            self.at["x"] = word
        elif number == 11:
            self.at["acc"] = 0 if acc > 0 else 1
        elif 12 <= number <= 22:
            self.at["acc"] = (
                lambda: (acc + word) % 65536, lambda: (acc - word) % 65536, lambda: (acc * word) % 65536,
                lambda: acc // word, lambda: acc % word, lambda: int(acc == word), lambda: int(acc != word),
                lambda: int(acc < word), lambda: int(acc <= word), lambda: int(acc > word), lambda: int(acc >= word),
            )[number - 12]()
        elif number == 23:
            self.at["pc"] = p
        elif number == 24 and acc == 0:
            self.at["pc"] = p
        elif number == 25 and acc != 0:
            self.at["pc"] = p
        elif number == 26:
            self.words[p] = following
            self.at["pc"] = 0 if p == 255 else p + 1
        elif number == 27:
            self.at["pc"] = word % 256
        elif number == 28:
            self.at["out"] = reckoning.fold(self.bits, self.at["out"], reckoning.leaf(self.bits, acc))
            self.at["count"] += 1
            self.told.append(acc)


def drawn_state(drawn, bits):
    """Registers and words, drawn so that all instructions, arguments, edges and marks come."""
    edge = (0, 1, 2, 127, 128, 254, 255, 256, 257, 511, 512, 1023, 1024, 32768, 65534, 65535)

    def word():
        return drawn.choice((drawn.choice(edge), drawn.randint(0, 65535), drawn.randint(0, 255)))

    count = drawn.choice((0, 0, 1, 15, 16, drawn.randint(0, 16)))
    registers = (
        drawn.choice((0, 254, 255, drawn.randint(0, 255))), word(), word(),
        drawn.choice((0, 0, 0, 0, 0, 0, 0, 0, 0, 0, drawn.randint(1, 6))),
        drawn.randint(0, reckoning.MODULI[bits] - 1), count,
    )
    words = [word() for _ in range(256)]
    argument = drawn.choice((registers[0], 0, 255, 256, 1023, drawn.randint(0, 1023)))
    words[registers[0]] = 1024 * drawn.randint(0, 31) + argument
    return registers, tuple(words)
