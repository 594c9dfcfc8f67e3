"""The court against a court that the tests keep on their own, and point 816."""

import random
import unittest

from courtmodel import CourtModel, told_by
from disputes import IMAGE, Taking, ask, court_of, false_row, put, ticks, true_row, twice_false_row
from reckoning import ListBook
from rows import TELLS, row
from onestepcourt.court import Court
from onestepcourt.digests import Book, Digests
from onestepcourt.letters import is_letter


class Letters:
    """Draws letters: right ones about what stands, right ones about what does not, and wrong ones."""

    def __init__(self, drawn, rows, asks):
        self.drawn = drawn
        self.rows = rows
        self.asks = asks

    def letter(self, court):
        if court.count() == 0 or self.drawn.random() < 0.04:
            return self.drawn.choice(self.asks)
        letter = self.about_a_question(self.drawn.randrange(court.count() + (self.drawn.random() < 0.05)))
        if self.drawn.random() < 0.15:
            letter = self.changed(letter)
        return letter

    def about_a_question(self, number):
        own = self.drawn.choice(self.rows)
        kind = self.drawn.choice(("claim", "halve", "halve", "halve", "halve", "halve", "prove", "prove"))
        if kind == "claim":
            return own.claim(number)
        level = 0 if kind == "prove" else self.drawn.randint(min(1, own.k), own.k)
        edge = own.edge(level, self.drawn.randrange(2 ** (own.k - level)))
        return own.prove(number, edge) if level == 0 else own.halve(number, edge)

    def changed(self, letter):
        place = self.drawn.randrange(len(letter))
        part = letter[place]
        if isinstance(part, int):
            return put(letter, place, self.drawn.choice((part + 1, 0, 5, -1, None, part - 1)))
        if isinstance(part, tuple):
            return put(letter, place, self.drawn.choice((part[1:], part + (0,), list(part), part[::-1])))
        return letter[:place] + letter[place + 1:]


class Drawn(unittest.TestCase):
    """All words, all that is told, and all decisions of drawn letters and ticks."""

    def compare(self, drawn, rows, asks, patience, many, bits=61):
        coins = (90, 60, 200, 5)
        digests = Digests(bits, Book())
        court = Court(digests, coins, 10, patience)
        steps = {}
        for own in rows:
            steps.update(own.steps)
        model = CourtModel(bits, coins, 10, patience, steps, lambda value: is_letter(digests, value))
        letters = Letters(drawn, rows, asks)
        for _ in range(many):
            if drawn.random() < 0.2:
                self.assertEqual(court.tick(), model.tick())
            else:
                player, letter = drawn.randrange(len(coins)), letters.letter(court)
                self.assertEqual(court.receive(player, letter), model.receive(player, letter), letter)
            if drawn.random() < 0.1:
                self.assertEqual(told_by(court), model.told())
            self.assertEqual(sum(court.coins()) + court.held(), sum(coins))
            self.assertGreaterEqual(min(court.coins()), 0)
        self.assertEqual(told_by(court), model.told())
        return court

    def words(self, seed, rows, asks, patiences, many, times):
        drawn = random.Random(seed)
        words = {}
        for _ in range(times):
            court = self.compare(drawn, rows, asks, drawn.choice(patiences), many)
            for time, player, letter, word in court.log():
                kind = letter[0] if word not in ("letter", "done") else None
                words[(kind, word)] = words.get((kind, word), 0) + 1
            words["decided"] = words.get("decided", 0) + sum(
                court.accepted(number) is not None for number in range(court.count()))
        return words

    def test_disputes_of_one_level(self):
        rows = [true_row(2), false_row(2, 1), false_row(2, 3), false_row(2, 4), twice_false_row(2, 1, 3),
                twice_false_row(2, 2, 4)]
        words = self.words(816, rows, [ask(2)], (3, 8, 40, 1000), 300, 25)
        for reason in ("question", "closed", "stands", "coins", "answer"):
            self.assertIn(("claim", reason), words)
        for reason in ("question", "closed", "edge", "rival", "halved", "halves"):
            self.assertIn(("halve", reason), words)
        for reason in ("question", "closed", "edge", "rival", "proven", "step"):
            self.assertIn(("prove", reason), words)
        self.assertIn((None, "letter"), words)
        self.assertGreater(words["decided"], 20)

    def test_disputes_of_several_levels(self):
        rows = [make(level) for level in (0, 1, 3) for make in (
            true_row, lambda level: false_row(level, 1), lambda level: false_row(level, 2 ** level))]
        asks = [ask(0), ask(1), ask(3), ask(1, ("answer", 0)), ask(3, ("answer", 1)), ask(0, ("answer", 7))]
        words = self.words(817, rows, asks, (2, 6, 30), 250, 25)
        for reason in ("question", "open"):
            self.assertIn(("ask", reason), words)
        self.assertIn(("halve", "closed"), words)
        self.assertGreater(words["decided"], 40)

    def test_other_bits(self):
        drawn = random.Random(818)
        for bits in (13, 31):
            rows = [true_row(2, bits=bits), false_row(2, 1, bits=bits), false_row(2, 3, bits=bits),
                    false_row(2, 4, bits=bits)]
            for _ in range(5):
                self.compare(drawn, rows, [ask(2)], 12, 200, bits)


class Reckoned(Taking, unittest.TestCase):
    """Point 816."""

    def setUp(self):
        # One counts different texts, the other one all that are told.
        self.book = Book()
        self.told = ListBook()

    def court_with(self, book, level, patience=50):
        return court_of(level, patience, book=book)

    def count(self, book):
        return book.count() if isinstance(book, Book) else len(book.told)

    def most(self, court, book, most, *letters, player=0):
        words = []
        for letter in letters:
            before = self.count(book)
            words.append(court.receive(player, letter))
            self.assertLessEqual(self.count(book) - before, most, letter)
        return words

    def test_asks(self):
        for book in (self.book, self.told):
            court = self.court_with(book, None)
            full = ask(8, tuple(range(1000, 1016)), tuple(range(239)))
            self.assertEqual(self.most(court, book, 512, full, ask(0), full, ask(1, ("answer", 0)), ask(1, ("answer", 9))),
                             ["done", "done", "done", "open", "question"])
        # Of these letters the first three had an effect.
        self.assertEqual(self.count(self.told), 3 * 512)

    def test_claims(self):
        for book in (self.book, self.told):
            for level in (0, 1, 4, 8):
                own = row(61, TELLS[0], (4,), level)
                many = len(own.end()[4])
                court = self.court_with(book, None)
                court.receive(0, ask(level, (4,), TELLS[0]))
                letter = own.claim(0)
                wrong = [put(letter, place, letter[place] + 1) for place in (2, 3, 6)]
                self.most(court, book, level + 1 + 2 * many, *wrong, letter, letter)
                court.receive(0, ask(level, (4,), TELLS[0]))
                self.most(court, book, level + 1 + 2 * many, own.claim(1), player=3)
                self.assertEqual(len(court.claims(0)), 1)

    def test_claims_of_any_length(self):
        court = self.court_with(self.told, 3)
        letter = true_row(3).claim(0)
        self.assertEqual(self.most(court, self.told, 4, put(letter, 4, (1,) * 500), put(letter, 4, ())), ["answer"] * 2)
        self.assertEqual(self.most(court, self.told, 4 + 2 * 16, put(letter, 7, (1,) * 16)), ["answer"])

    def test_halvings(self):
        for book in (self.book, self.told):
            for level in (1, 2, 5, 8):
                court = self.court_with(book, level)
                rows = (true_row(level), false_row(level, 2 ** level))
                self.claimed(court, *rows)
                for own in rows:
                    letter = own.halve(0, own.claimed())
                    wrong = [put(letter, place, letter[place] + 1) for place in (7, 8, 9)]
                    wrong += [put(letter, 10, (1,) * many) for many in (level - 2, level, 300) if many >= 0]
                    words = self.most(court, book, level + 1, *wrong, letter, letter)
                    self.assertEqual(words[-2:], ["done", "halved"])

    def test_provings(self):
        kinds = set()
        for image in (IMAGE, TELLS[0], (1024 * 6 + 250,), (1024 * 26 + 250,), (1024 * 5,), (1024,)):
            for book in (self.book, self.told):
                for step in range(1, 5):
                    rows = [row(61, image, (4,), 2, *turns) for turns in ((), (("word", step, 200, 9),))]
                    court = self.court_with(book, None)
                    self.takes(court, 0, ask(2, (4,), image))
                    self.claimed(court, *rows)
                    self.halved(court, step, *rows)
                    letters = [own.prove(0, own.edge(0, step - 1)) for own in rows]
                    kinds.add(len(letters[0][6][2]))
                    self.assertEqual(self.most(court, book, 30, letters[1], put(letters[0], 6, None), letters[0]),
                                     ["step", "step", "done"])
        self.assertEqual(kinds, {0, 1, 2})

    def test_ticks_and_all_that_is_asked(self):
        for book in (self.book, self.told):
            court = self.court_with(book, 3, 5)
            rows = (true_row(3), false_row(3, 6))
            self.claimed(court, *rows)
            self.halved(court, 6, *rows)
            court.receive(0, rows[0].prove(0, rows[0].edge(0, 5)))
            before = self.count(book)
            for _ in range(7):
                court.tick()
                told_by(court)
            self.assertIsNotNone(court.accepted(0))
            self.assertEqual(self.count(book), before)

    def test_values_that_are_no_letters(self):
        court = self.court_with(self.told, 3)
        before = len(self.told.told)
        ticks(court, 1)
        for value in (None, ask(9), put(true_row(3).claim(0), 2, -1), ("claim",) * 8):
            court.receive(0, value)
        self.assertEqual(len(self.told.told), before)


if __name__ == "__main__":
    unittest.main()
