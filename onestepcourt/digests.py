"""Digests of words, pairs and states, and the book of what was reckoned."""

from onestepcourt.limits import MOST_WORD


def is_integer(value, least, greatest):
    """Tells whether a value is an integer from the least to the greatest one."""
    if not isinstance(value, int) or isinstance(value, bool):
        return False
    return least <= value <= greatest


def is_word(value):
    """Tells whether a value is a word."""
    return is_integer(value, 0, MOST_WORD)


class Digests:
    """Reckons digests of so many bits, and tells each one to the book, if there is one."""

    def __init__(self, bits, book):
        self._bits = bits
        self._book = book
        self._modulus = (1 << bits) - 1

    def leaf(self, word):
        """Returns the digest of a word."""
        return self._noted("leaf", word, (48271 * word + 11) % self._modulus)

    def fold(self, left, right):
        """Returns the digest of a pair of digests."""
        mixed = 69621 * left + 16807 * right + 5
        digest = right * right + 3 * left + 7 * right + 1 + mixed * mixed
        return self._noted("fold", (left, right), digest % self._modulus)

    def state(self, numbers):
        """Returns the digest of a tuple of integers."""
        digest = 3
        for number in numbers:
            # Reduced at each number, so that long tuples do not make long integers.
            digest = ((digest + number) * (digest + 48611) + 52774 * number + 19) % self._modulus
        return self._noted("state", numbers, digest)

    def modulus(self):
        """Returns the number of different digests."""
        return self._modulus

    def is_digest(self, value):
        """Tells whether a value is a digest of these bits."""
        return is_integer(value, 0, self._modulus - 1)

    def without_book(self):
        """Returns a Digests of the same bits that tells nothing to a book."""
        return Digests(self._bits, None)

    def _noted(self, kind, text, digest):
        if self._book is not None:
            self._book.add(kind, text, digest)
        return digest


class Book:
    """Keeps which texts of which kind had which digest."""

    def __init__(self):
        self._texts = {}
        self._firsts = {}
        self._collided = False

    def add(self, kind, text, digest):
        """Keeps a text of a kind with its digest."""
        self._texts[(kind, text)] = True
        # One text for each digest is enough: any other one differs from it.
        if self._firsts.setdefault((kind, digest), text) != text:
            self._collided = True

    def has_collision(self):
        """Tells whether two different texts of one kind have the same digest."""
        return self._collided

    def count(self):
        """Returns the number of different pairs of a kind and a text."""
        return len(self._texts)
