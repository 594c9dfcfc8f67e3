import random
import unittest

import reckoning
from reckoning import ALL_BITS, MODULI, ListBook
from onestepcourt.digests import Book, Digests
from onestepcourt.limits import DEPTH
from onestepcourt.trees import PLACES, Memory, path_of, root_by, root_of

LENGTHS = (1, 2, 4, 8, 16, 32)


def drawn_row(bits, length):
    """A row of drawn digests, with the least and the greatest digest at its ends."""
    drawn = random.Random(200 + bits * 100 + length)
    row = [drawn.randint(0, MODULI[bits] - 1) for _ in range(length)]
    row[0] = 0
    row[-1] = MODULI[bits] - 1
    return tuple(row)


def rows(bits):
    for length in LENGTHS:
        yield drawn_row(bits, length)
        yield (5,) * length
        yield tuple(range(length))


class Rows(unittest.TestCase):
    def test_roots_by_hand(self):
        digests = Digests(61, None)
        fold = digests.fold
        self.assertEqual(root_of(digests, (9,)), 9)
        self.assertEqual(root_of(digests, (0, 1)), 282643353)
        self.assertEqual(root_of(digests, (1, 0)), 4847779880)
        self.assertEqual(root_of(digests, (1, 2, 3, 4)), fold(fold(1, 2), fold(3, 4)))

    def test_paths_by_hand(self):
        digests = Digests(61, None)
        fold = digests.fold
        self.assertEqual(path_of(digests, (9,), 0), ())
        self.assertEqual(path_of(digests, (8, 9), 0), (9,))
        self.assertEqual(path_of(digests, (8, 9), 1), (8,))
        self.assertEqual(path_of(digests, (1, 2, 3, 4), 0), (2, fold(3, 4)))
        self.assertEqual(path_of(digests, (1, 2, 3, 4), 3), (3, fold(1, 2)))
        row = (1, 2, 3, 4, 5, 6, 7, 8)
        self.assertEqual(path_of(digests, row, 5), (5, fold(7, 8), fold(fold(1, 2), fold(3, 4))))

    def test_roots(self):
        for bits in ALL_BITS:
            for row in rows(bits):
                self.assertEqual(root_of(Digests(bits, None), row), reckoning.root(bits, row), (bits, row))

    def test_paths(self):
        for bits in ALL_BITS:
            for row in rows(bits):
                for place in range(len(row)):
                    path = path_of(Digests(bits, None), row, place)
                    self.assertIs(type(path), tuple)
                    self.assertEqual(path, reckoning.path(bits, row, place), (bits, row, place))
                    self.assertEqual(2 ** len(path), len(row))

    def test_each_path_leads_to_the_root(self):
        for bits in ALL_BITS:
            digests = Digests(bits, None)
            for row in rows(bits):
                for place in range(len(row)):
                    path = path_of(digests, row, place)
                    self.assertEqual(
                        root_by(digests, place, row[place], path), reckoning.root(bits, row), (bits, row, place))

    def test_a_place_somewhat_beyond_is_no_error(self):
        digests = Digests(61, None)
        row = drawn_row(61, 4)
        self.assertEqual(root_by(digests, 5, row[1], path_of(digests, row, 5)), root_of(digests, row))

    def test_root_by_by_hand(self):
        digests = Digests(61, None)
        fold = digests.fold
        self.assertEqual(root_by(digests, 0, 7, ()), 7)
        self.assertEqual(root_by(digests, 0, 7, (8,)), fold(7, 8))
        self.assertEqual(root_by(digests, 1, 7, (8,)), fold(8, 7))
        self.assertEqual(root_by(digests, 2, 7, (8, 9)), fold(9, fold(7, 8)))
        self.assertEqual(root_by(digests, 5, 7, (8, 9, 10)), fold(10, fold(fold(8, 7), 9)))

    def test_rows_stay_as_they_were(self):
        digests = Digests(31, None)
        for kind in (tuple, list):
            for length in LENGTHS:
                row = kind(drawn_row(31, length))
                before = kind(row)
                self.assertEqual(root_of(digests, row), reckoning.root(31, before))
                self.assertEqual(row, before)
                self.assertEqual(path_of(digests, row, length // 2), reckoning.path(31, before, length // 2))
                self.assertEqual(row, before)

    def test_paths_stay_as_they_were(self):
        path = [8, 9, 10]
        root_by(Digests(31, None), 5, 7, path)
        self.assertEqual(path, [8, 9, 10])

    def test_a_book_is_told_of_all_folds_of_a_root(self):
        for bits in ALL_BITS:
            for row in rows(bits):
                book = ListBook()
                root_of(Digests(bits, book), row)
                told = {(kind, text) for kind, text, digest in book.told}
                self.assertEqual(told, reckoning.texts_of_row(bits, row))

    def test_a_book_is_told_of_the_folds_of_a_path(self):
        book = ListBook()
        root_by(Digests(31, book), 2, 7, (8, 9))
        inner = reckoning.fold(31, 7, 8)
        self.assertEqual(book.told, [("fold", (7, 8), inner), ("fold", (9, inner), reckoning.fold(31, 9, inner))])


class OtherWays(unittest.TestCase):
    """Point 202: what differs from the row does not lead to its root."""

    def others(self, row, place, path, modulus):
        digest = row[place]
        for step in (1, 2, modulus // 2):
            yield place, (digest + step) % modulus, path
        for other in range(len(row)):
            if other != place and row[other] != digest:
                yield other, digest, path
        for at in range(len(path)):
            for step in (1, 5, modulus // 3):
                yield place, digest, path[:at] + ((path[at] + step) % modulus,) + path[at + 1:]

    def test_nothing_else_leads_to_the_root(self):
        tried = 0
        for bits in ALL_BITS:
            for length in LENGTHS:
                row = drawn_row(bits, length)
                for place in range(length):
                    book = Book()
                    digests = Digests(bits, book)
                    root = root_of(digests, row)
                    path = path_of(digests, row, place)
                    for other in self.others(row, place, path, MODULI[bits]):
                        if root_by(digests, *other) == root:
                            self.assertTrue(book.has_collision(), (bits, row, place, other))
                        else:
                            tried += 1
        self.assertGreater(tried, 5000)

    def test_with_61_bits_nothing_collides(self):
        for length in LENGTHS:
            row = drawn_row(61, length)
            book = Book()
            digests = Digests(61, book)
            root = root_of(digests, row)
            for place in range(length):
                path = path_of(digests, row, place)
                for other in self.others(row, place, path, MODULI[61]):
                    self.assertNotEqual(root_by(digests, *other), root)
            self.assertIs(book.has_collision(), False)


class Memories(unittest.TestCase):
    ROWS = ((), (5,), (0, 0, 9), (1, 2, 3, 65535), tuple(range(0, 256 * 255, 255)), (65535,) * 256)

    def check(self, bits, memory, words):
        padded = tuple(words) + (0,) * (256 - len(words))
        row = reckoning.leaves(bits, padded)
        self.assertEqual(memory.words(), padded)
        self.assertIs(type(memory.words()), tuple)
        self.assertEqual(memory.root(), reckoning.root(bits, row))
        for place in (0, 1, 2, 3, 100, 127, 128, 254, 255):
            path = memory.path(place)
            self.assertIs(type(path), tuple)
            self.assertEqual(path, reckoning.path(bits, row, place))
            self.assertEqual(memory.word(place), padded[place])

    def test_the_number_of_places(self):
        self.assertEqual(PLACES, 2 ** DEPTH)

    def test_memories(self):
        for bits in ALL_BITS:
            for words in self.ROWS:
                self.check(bits, Memory(Digests(bits, None), words), words)

    def test_all_words_and_paths(self):
        digests = Digests(13, None)
        words = tuple(range(7, 263))
        memory = Memory(digests, words)
        self.assertEqual(tuple(memory.word(place) for place in range(256)), words)
        for place in range(256):
            path = memory.path(place)
            self.assertEqual(len(path), 8)
            self.assertEqual(root_by(digests, place, reckoning.leaf(13, words[place]), path), memory.root())

    def test_changes(self):
        for bits in ALL_BITS:
            for words in self.ROWS:
                memory = Memory(Digests(bits, None), words)
                now = list(words) + [0] * (256 - len(words))
                for place, word in ((0, 9), (255, 65535), (1, 4), (128, 70), (127, 71), (0, 0), (0, 12), (3, 3)):
                    self.assertIsNone(memory.change(place, word))
                    now[place] = word
                    self.check(bits, memory, now)

    def test_the_same_place_twice(self):
        memory = Memory(Digests(61, None), (1, 2, 3))
        before = (memory.root(), memory.path(0))
        memory.change(1, 77)
        self.assertNotEqual(memory.root(), before[0])
        memory.change(1, 78)
        self.check(61, memory, (1, 78, 3))
        memory.change(1, 2)
        self.assertEqual((memory.root(), memory.path(0)), before)

    def test_each_place_can_be_changed(self):
        digests = Digests(31, None)
        memory = Memory(digests, ())
        now = [0] * 256
        for place in range(256):
            memory.change(place, 1000 + place)
            now[place] = 1000 + place
            self.assertEqual(memory.word(place), 1000 + place)
            self.assertEqual(
                root_by(digests, place, reckoning.leaf(31, 1000 + place), memory.path(place)), memory.root())
        self.check(31, memory, now)

    def test_what_was_returned_stays_as_it_was(self):
        memory = Memory(Digests(61, None), (1, 2, 3))
        words, path = memory.words(), memory.path(0)
        memory.change(1, 9)
        self.assertEqual(words, (1, 2, 3) + (0,) * 253)
        self.assertEqual(path, reckoning.path(61, reckoning.leaves(61, (1, 2, 3)), 0))

    def test_memories_are_apart(self):
        digests = Digests(61, None)
        first, second = Memory(digests, (1, 2)), Memory(digests, (1, 2))
        first.change(0, 9)
        self.check(61, first, (9, 2))
        self.check(61, second, (1, 2))

    def test_somewhat_too_many_words_are_no_error(self):
        self.check(61, Memory(Digests(61, None), tuple(range(260))), tuple(range(256)))

    def test_places_somewhat_beyond_are_no_error(self):
        memory = Memory(Digests(61, None), (1, 2, 3))
        self.assertEqual((memory.word(256), memory.path(257)), (1, memory.path(1)))
        memory.change(258, 9)
        self.check(61, memory, (1, 2, 9))

    def test_a_book_is_told_of_all_digests_of_the_row(self):
        for bits in ALL_BITS:
            for words in self.ROWS:
                book = Book()
                Memory(Digests(bits, book), words)
                self.assertEqual(book.count(), len(reckoning.texts_of_memory(bits, words)))
                told = ListBook()
                Memory(Digests(bits, told), words)
                self.assertEqual({text[:2] for text in told.told}, reckoning.texts_of_memory(bits, words))

    def test_a_book_is_told_of_the_leaf_and_the_folds_above_it(self):
        for bits in ALL_BITS:
            for words in self.ROWS:
                for place in (0, 1, 6, 127, 128, 255):
                    now = list(words) + [0] * (256 - len(words))
                    now[place] = 4711
                    book = ListBook()
                    memory = Memory(Digests(bits, book), words)
                    del book.told[:]
                    memory.change(place, 4711)
                    self.assertEqual({text[:2] for text in book.told}, self.above(bits, now, place))

    def above(self, bits, words, place):
        """The leaf of the word at a place and the folds above it."""
        row = reckoning.leaves(bits, words)
        found = {("leaf", words[place])}
        length = 2
        while length <= 256:
            start = place - place % length
            middle = start + length // 2
            left = reckoning.root(bits, row[start:middle])
            right = reckoning.root(bits, row[middle:start + length])
            found.add(("fold", (left, right)))
            length = length * 2
        return found

    def test_asking_tells_nothing(self):
        book = ListBook()
        memory = Memory(Digests(31, book), (1, 2, 3))
        memory.change(4, 5)
        del book.told[:]
        memory.root()
        memory.words()
        for place in (0, 4, 255):
            memory.path(place)
            memory.word(place)
        self.assertEqual(book.told, [])


if __name__ == "__main__":
    unittest.main()
