"""What the tests reckon on their own, from the words of the document, without the program."""

ALL_BITS = (7, 13, 31, 61)
MODULI = {7: 127, 13: 8191, 31: 2147483647, 61: 2305843009213693951}

# Values that are no integers, words, digests or tuples of such.
NO_INTEGERS = (True, False, None, "", "1", "word", (), (1,), [], [1], {}, {1: 1}, 1.0, b"1", object())


def leaf(bits, word):
    return (48271 * word + 11) % MODULI[bits]


def fold(bits, x, y):
    z = 69621 * x + 16807 * y + 5
    return (y ** 2 + 3 * x + 7 * y + 1 + z ** 2) % MODULI[bits]


def state(bits, numbers):
    d = 3
    for n in numbers:
        d = (d + n) * (d + 48611) + 52774 * n + 19
        d = d % MODULI[bits]
    return d


def out_of(bits, words):
    out = 7
    for word in words:
        out = fold(bits, out, leaf(bits, word))
    return out


def root(bits, row):
    if len(row) == 1:
        return row[0]
    half = len(row) // 2
    return fold(bits, root(bits, row[:half]), root(bits, row[half:]))


def path(bits, row, place):
    """The path from the greatest halves downwards, and so, reversed, from the neighbour upwards."""
    found = []
    while len(row) > 1:
        half = len(row) // 2
        if place < half:
            found.append(root(bits, row[half:]))
            row = row[:half]
        else:
            found.append(root(bits, row[:half]))
            row = row[half:]
            place = place - half
    return tuple(reversed(found))


def leaves(bits, words):
    padded = tuple(words) + (0,) * (256 - len(words))
    return tuple(leaf(bits, word) for word in padded)


def texts_of_row(bits, row):
    """All pairs that are folded for the root of a row, as texts of a book."""
    if len(row) == 1:
        return set()
    half = len(row) // 2
    pair = (root(bits, row[:half]), root(bits, row[half:]))
    return {("fold", pair)} | texts_of_row(bits, row[:half]) | texts_of_row(bits, row[half:])


def texts_of_memory(bits, words):
    padded = tuple(words) + (0,) * (256 - len(words))
    return {("leaf", word) for word in padded} | texts_of_row(bits, leaves(bits, words))


class ListBook:
    """Keeps all that a Digests tells to its book, in order and with what is told twice."""

    def __init__(self):
        self.told = []

    def add(self, kind, text, digest):
        self.told.append((kind, text, digest))

    def kinds(self, kind):
        return [text for told_kind, text, digest in self.told if told_kind == kind]
