import random
import unittest

import reckoning
from reckoning import ALL_BITS, MODULI, NO_INTEGERS, ListBook
from onestepcourt.digests import Book, Digests, is_integer, is_word

WORDS = (0, 1, 2, 3, 126, 127, 128, 255, 256, 1000, 8190, 8191, 8192, 32768, 65534, 65535)


def edges(bits):
    """Digests: the edges, some between them, and some that are drawn."""
    last = MODULI[bits] - 1
    drawn = random.Random(bits)
    return (0, 1, 2, 7, last // 2, last - 1, last) + tuple(drawn.randint(0, last) for _ in range(10))


class Integers(unittest.TestCase):
    def test_integers_at_and_beyond_the_edges(self):
        for least, greatest in ((0, 0), (0, 9), (-3, 3), (5, 6), (0, 2 ** 61), (-7, -7)):
            for value, right in (
                (least - 2, False), (least - 1, False), (least, True), (greatest, True),
                (greatest + 1, False), (greatest + 2, False), ((least + greatest) // 2, True),
            ):
                with self.subTest(value, least=least, greatest=greatest):
                    self.assertIs(is_integer(value, least, greatest), right)

    def test_no_integer_is_between_turned_edges(self):
        self.assertIs(is_integer(3, 4, 2), False)

    def test_other_values_are_no_integers(self):
        for value in NO_INTEGERS:
            with self.subTest(repr(value)):
                self.assertIs(is_integer(value, -10, 10), False)

    def test_words(self):
        for value in WORDS:
            self.assertIs(is_word(value), True, value)

    def test_integers_beyond_the_edges_are_no_words(self):
        for value in (-65536, -2, -1, 65536, 65537, 2 ** 61, 10 ** 30):
            self.assertIs(is_word(value), False, value)

    def test_other_values_are_no_words(self):
        for value in NO_INTEGERS:
            with self.subTest(repr(value)):
                self.assertIs(is_word(value), False)

    def test_digests_of_each_size(self):
        for bits in ALL_BITS:
            digests = Digests(bits, None)
            for value in edges(bits):
                self.assertIs(digests.is_digest(value), True, (bits, value))
            for value in (-2, -1, MODULI[bits], MODULI[bits] + 1, 2 * MODULI[bits], 2 ** 70):
                self.assertIs(digests.is_digest(value), False, (bits, value))

    def test_other_values_are_no_digests(self):
        for bits in ALL_BITS:
            for book in (None, Book()):
                for value in NO_INTEGERS:
                    with self.subTest(repr(value), bits=bits):
                        self.assertIs(Digests(bits, book).is_digest(value), False)


class Reckoned(unittest.TestCase):
    def test_the_modulus(self):
        for bits in ALL_BITS:
            for book in (None, Book()):
                self.assertEqual(Digests(bits, book).modulus(), MODULI[bits])
                self.assertEqual(Digests(bits, book).without_book().modulus(), MODULI[bits])

    def test_leaves_by_hand(self):
        self.assertEqual([Digests(bits, None).leaf(0) for bits in ALL_BITS], [11, 11, 11, 11])
        # 48271 + 11 = 48282 = 380 * 127 + 22 = 5 * 8191 + 7327
        self.assertEqual([Digests(bits, None).leaf(1) for bits in ALL_BITS], [22, 7327, 48282, 48282])
        # 48271 * 65535 + 11 = 3163439996 = 2147483647 + 1015956349
        self.assertEqual(Digests(31, None).leaf(65535), 1015956349)
        self.assertEqual(Digests(61, None).leaf(65535), 3163439996)

    def test_leaves(self):
        for bits in ALL_BITS:
            for word in WORDS:
                self.assertEqual(Digests(bits, None).leaf(word), reckoning.leaf(bits, word), (bits, word))

    def test_words_below_the_modulus_have_different_leaves(self):
        for bits in ALL_BITS:
            many = min(MODULI[bits], 65536)
            self.assertEqual(len({Digests(bits, None).leaf(word) for word in range(many)}), many)

    def test_folds_by_hand(self):
        # z = 5, and 1 + 25 = 26
        self.assertEqual([Digests(bits, None).fold(0, 0) for bits in ALL_BITS], [26, 26, 26, 26])
        # z = 69626 for (1, 0), and 3 + 1 + z * z = 4847779880; z = 16812 for (0, 1), 1 + 7 + 1 + z * z = 282643353
        self.assertEqual(Digests(61, None).fold(1, 0), 4847779880)
        self.assertEqual(Digests(61, None).fold(0, 1), 282643353)
        self.assertEqual(Digests(31, None).fold(1, 0), 4847779880 - 2 * 2147483647)

    def test_folds(self):
        for bits in ALL_BITS:
            for left in edges(bits):
                for right in edges(bits):
                    self.assertEqual(
                        Digests(bits, None).fold(left, right), reckoning.fold(bits, left, right), (bits, left, right))

    def test_folding_is_not_symmetric(self):
        for bits in ALL_BITS:
            digests = Digests(bits, None)
            for left, right in ((0, 1), (1, 2), (0, MODULI[bits] - 1), (11, 22)):
                self.assertNotEqual(digests.fold(left, right), digests.fold(right, left), (bits, left, right))

    def test_states_by_hand(self):
        self.assertEqual([Digests(bits, None).state(()) for bits in ALL_BITS], [3, 3, 3, 3])
        # 3 * 48614 + 19 = 145861 for (0,), and 4 * 48614 + 52774 + 19 = 247249 for (1,)
        self.assertEqual(Digests(61, None).state((0,)), 145861)
        self.assertEqual(Digests(61, None).state((1,)), 247249)
        # 145861 * (145861 + 48611) + 19 = 28365880411 for (0, 0)
        self.assertEqual(Digests(61, None).state((0, 0)), 28365880411)
        self.assertEqual(Digests(7, None).state((0,)), 145861 % 127)

    def test_states(self):
        drawn = random.Random(104)
        rows = [(), (0,), (1,), (65535,), (0, 0), (0, 1), (1, 0), (0,) * 7, (3, 9, 0, 1, 7, 0, 11), (0,) * 300]
        rows.append(tuple(range(500)))
        rows.append(tuple(drawn.randint(0, 2 ** 61) for _ in range(200)))
        for bits in ALL_BITS:
            for row in rows:
                self.assertEqual(Digests(bits, None).state(row), reckoning.state(bits, row), (bits, row))

    def test_numbers_of_a_state_may_be_greater_than_the_modulus(self):
        for bits in ALL_BITS:
            modulus = MODULI[bits]
            for row in ((modulus,), (modulus + 1, 4), (5, 3 * modulus + 2, 10 ** 40), (2 ** 64,) * 20):
                self.assertEqual(Digests(bits, None).state(row), reckoning.state(bits, row), (bits, row))
            self.assertEqual(Digests(bits, None).state((modulus + 4,)), Digests(bits, None).state((4,)))

    def test_all_results_are_digests(self):
        for bits in ALL_BITS:
            digests = Digests(bits, None)
            last = MODULI[bits] - 1
            for result in (digests.leaf(65535), digests.fold(last, last), digests.state((last,) * 9)):
                self.assertIs(digests.is_digest(result), True)

    def test_a_book_does_not_change_the_digests(self):
        for bits in ALL_BITS:
            told = Digests(bits, Book())
            quiet = Digests(bits, None)
            self.assertEqual(told.leaf(700), quiet.leaf(700))
            self.assertEqual(told.fold(5, 6), quiet.fold(5, 6))
            self.assertEqual(told.state((5, 6, 700)), quiet.state((5, 6, 700)))


class Told(unittest.TestCase):
    def test_a_book_is_told_of_each_text_with_its_digest(self):
        for bits in ALL_BITS:
            book = ListBook()
            digests = Digests(bits, book)
            digests.leaf(65535)
            digests.fold(4, 5)
            digests.state((1, MODULI[bits] + 2))
            digests.state(())
            digests.leaf(65535)
            self.assertEqual(book.told, [
                ("leaf", 65535, reckoning.leaf(bits, 65535)),
                ("fold", (4, 5), reckoning.fold(bits, 4, 5)),
                ("state", (1, MODULI[bits] + 2), reckoning.state(bits, (1, MODULI[bits] + 2))),
                ("state", (), 3),
                ("leaf", 65535, reckoning.leaf(bits, 65535)),
            ])

    def test_asking_for_digests_tells_nothing(self):
        book = ListBook()
        digests = Digests(7, book)
        digests.modulus()
        digests.is_digest(5)
        self.assertEqual(book.told, [])

    def test_without_book_tells_nothing(self):
        for book in (ListBook(), None):
            quiet = Digests(13, book).without_book()
            self.assertEqual(quiet.leaf(3), reckoning.leaf(13, 3))
            self.assertEqual(quiet.fold(3, 4), reckoning.fold(13, 3, 4))
            self.assertEqual(quiet.state((3, 4)), reckoning.state(13, (3, 4)))
            if book is not None:
                self.assertEqual(book.told, [])

    def test_without_book_leaves_the_book_where_it_was(self):
        book = Book()
        digests = Digests(13, book)
        digests.without_book().leaf(3)
        self.assertEqual(book.count(), 0)
        digests.leaf(3)
        self.assertEqual(book.count(), 1)

    def test_a_digests_without_a_book_tells_nothing_to_another_book(self):
        book = Book()
        Digests(7, book)
        Digests(7, None).leaf(3)
        Digests(7, None).fold(3, 4)
        Digests(7, None).state((3,))
        self.assertEqual(book.count(), 0)

    def test_two_digests_may_share_a_book(self):
        book = Book()
        Digests(7, book).leaf(3)
        Digests(7, book).leaf(3 + 127)
        self.assertEqual(book.count(), 2)
        self.assertIs(book.has_collision(), True)


class Books(unittest.TestCase):
    def filled(self, *texts):
        book = Book()
        for kind, text, digest in texts:
            self.assertIsNone(book.add(kind, text, digest))
        return book

    def check(self, texts, count, collision):
        book = self.filled(*texts)
        self.assertEqual(book.count(), count)
        self.assertIs(book.has_collision(), collision)

    def test_no_text(self):
        self.check((), 0, False)

    def test_one_text_twice(self):
        self.check((("fold", (1, 2), 9), ("fold", (1, 2), 9)), 1, False)
        self.check((("leaf", 0, 9),) * 3, 1, False)

    def test_two_texts_of_one_kind_with_different_digests(self):
        self.check((("fold", (1, 2), 9), ("fold", (2, 1), 8)), 2, False)

    def test_two_texts_of_one_kind_with_one_digest(self):
        self.check((("leaf", 1, 9), ("leaf", 2, 9)), 2, True)
        self.check((("fold", (1, 2), 0), ("fold", (2, 1), 0)), 2, True)
        self.check((("state", (1,), 9), ("state", (1, 0), 9)), 2, True)
        self.check((("state", (), 9), ("state", (1, 0), 9)), 2, True)
        self.check((("leaf", 0, 9), ("leaf", 2, 9)), 2, True)

    def test_texts_of_two_kinds_with_one_digest(self):
        self.check((("fold", (1, 2), 9), ("state", (1, 2), 9), ("leaf", 1, 9)), 3, False)

    def test_one_text_of_two_kinds_counts_twice(self):
        self.check((("fold", (1, 2), 9), ("state", (1, 2), 9)), 2, False)
        self.check((("fold", (1, 2), 9), ("state", (1, 2), 8)), 2, False)

    def test_a_collision_stays(self):
        texts = (("leaf", 1, 9), ("leaf", 2, 9), ("leaf", 3, 10), ("leaf", 1, 9), ("leaf", 2, 9))
        self.check(texts, 3, True)

    def test_a_collision_with_an_earlier_text_than_the_last(self):
        self.check((("leaf", 1, 9), ("leaf", 2, 8), ("leaf", 3, 7), ("leaf", 4, 9)), 4, True)

    def test_books_are_apart(self):
        first, second = Book(), Book()
        first.add("leaf", 1, 9)
        second.add("leaf", 2, 9)
        self.assertEqual((first.count(), second.count()), (1, 1))
        self.assertEqual((first.has_collision(), second.has_collision()), (False, False))

    def test_words_beyond_the_modulus_collide(self):
        book = Book()
        digests = Digests(7, book)
        for word in range(127):
            digests.leaf(word)
        self.assertIs(book.has_collision(), False)
        self.assertEqual(book.count(), 127)
        digests.leaf(127)
        self.assertIs(book.has_collision(), True)
        self.assertEqual(book.count(), 128)

    def test_numbers_that_differ_by_the_modulus_collide(self):
        book = Book()
        digests = Digests(13, book)
        digests.state((4, 5))
        digests.state((4, 5 + 8191))
        self.assertEqual((book.count(), book.has_collision()), (2, True))


if __name__ == "__main__":
    unittest.main()
