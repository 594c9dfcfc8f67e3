import random
import unittest

from courtmodel import told_by
from disputes import IMAGE, Taking, another_pair, ask, court_of, false_row, ticks, true_row, twice_false_row
from playermodel import Draws, HonestModel, LiarModel, Telling
from rows import COUNTS, TELLS, Row, memory, row
import playermodel
from onestepcourt.digests import Digests
from onestepcourt.histories import History
from onestepcourt.players import WAYS, Honest, Liar, letters_for

DIGESTS = Digests(61, None)
TRUE = true_row(3)
LATE = false_row(3, 6)
EARLY = false_row(3, 2)


def history(own, turn=None):
    return History(DIGESTS, memory(IMAGE, ()), own.k, turn)


class ToldWay(Taking, unittest.TestCase):
    """Point 901: the letters at each stage of a question."""

    def letters(self, court, number=0):
        before = told_by(court)
        letters = letters_for(Telling(court), DIGESTS, number, history(TRUE))
        self.assertIs(type(letters), list)
        self.assertEqual(told_by(court), before)
        return letters

    def test_not_claimed(self):
        court = court_of(3)
        self.assertEqual(self.letters(court), [TRUE.claim(0)])
        self.takes(court, 0, LATE.claim(0))
        self.assertEqual(self.letters(court), [TRUE.claim(0)])

    def test_claimed_without_a_rival(self):
        court = court_of(3)
        self.takes(court, 2, TRUE.claim(0))
        self.assertEqual(self.letters(court), [])

    def test_with_a_rival(self):
        court = court_of(3)
        self.claimed(court, TRUE, LATE)
        self.assertEqual(self.letters(court), [TRUE.halve(0, TRUE.claimed())])
        self.takes(court, 1, LATE.halve(0, LATE.claimed()))
        self.assertEqual(self.letters(court), [TRUE.halve(0, TRUE.claimed())])

    def test_halved(self):
        court = court_of(3)
        self.claimed(court, TRUE, LATE)
        self.takes(court, 0, *self.letters(court))
        self.assertEqual(self.letters(court), [])
        self.takes(court, 1, LATE.halve(0, LATE.claimed()))
        self.assertEqual(self.letters(court), [TRUE.halve(0, TRUE.edge(2, 1))])
        self.takes(court, 0, *self.letters(court))
        self.assertEqual(self.letters(court), [])

    def test_both_halves(self):
        court = court_of(3)
        self.claimed(court, TRUE, LATE, EARLY)
        for own in (LATE, EARLY, TRUE):
            self.takes(court, 0, own.halve(0, own.claimed()))
        # The letters for the left half come first.
        self.assertEqual(self.letters(court), [TRUE.halve(0, TRUE.edge(2, 0)), TRUE.halve(0, TRUE.edge(2, 1))])
        self.takes(court, 1, EARLY.halve(0, EARLY.edge(2, 0)), TRUE.halve(0, TRUE.edge(2, 0)))
        self.assertEqual(self.letters(court), [TRUE.halve(0, TRUE.edge(1, 0)), TRUE.halve(0, TRUE.edge(2, 1))])

    def test_level_0(self):
        court = court_of(3)
        self.claimed(court, TRUE, LATE)
        self.halved(court, 6, TRUE, LATE)
        letter = TRUE.prove(0, TRUE.edge(0, 5))
        self.assertEqual(self.letters(court), [letter])
        self.takes(court, 0, letter)
        self.assertEqual(self.letters(court), [])

    def test_a_level_of_0(self):
        court = court_of(0)
        own, other = true_row(0), false_row(0, 1)
        self.assertEqual(letters_for(court, DIGESTS, 0, history(own)), [own.claim(0)])
        self.takes(court, 0, own.claim(0))
        self.assertEqual(letters_for(court, DIGESTS, 0, history(own)), [])
        self.takes(court, 0, other.claim(0))
        self.assertEqual(letters_for(court, DIGESTS, 0, history(own)), [own.prove(0, own.claimed())])
        self.takes(court, 0, own.prove(0, own.claimed()))
        self.assertEqual(letters_for(court, DIGESTS, 0, history(own)), [])

    def test_accepted(self):
        court = court_of(3, patience=2)
        self.claimed(court, TRUE, LATE)
        self.takes(court, 1, LATE.halve(0, LATE.claimed()))
        self.assertEqual(len(self.letters(court)), 1)
        ticks(court, 2)
        self.assertEqual(court.accepted(0), LATE.root(3, 0))
        self.assertEqual(self.letters(court), [])
        court = court_of(3, patience=1)
        self.takes(court, 0, LATE.claim(0))
        ticks(court, 1)
        self.assertEqual(self.letters(court), [])

    def test_halved_otherwise(self):
        # With 7 bits there are other halves with the true root: an edge that is halved by them gets no letters.
        digests = Digests(7, None)
        own = true_row(1, bits=7)
        other = next(lie for lie in (false_row(1, 2, word, 7) for word in range(50)) if lie.root(1, 0) != own.root(1, 0))
        truth = History(digests, memory(IMAGE, ()), 1, None)
        court = court_of(1, bits=7)
        self.claimed(court, own, other)
        self.assertEqual(letters_for(court, digests, 0, truth), [own.halve(0, own.claimed())])
        left, right = another_pair(7, own.row)
        self.takes(court, 1, ("halve", 0) + own.claimed() + (left, right, left, ()))
        self.assertNotEqual(court.halves(0, own.claimed()), own.half_edges(own.claimed()))
        self.assertEqual(letters_for(court, digests, 0, truth), [])
        # Also if one of these halves has a rival.
        self.takes(court, 1, other.halve(0, other.claimed()))
        self.assertIs(court.has_rival(0, court.halves(0, own.claimed())[0]), True)
        self.assertEqual(letters_for(court, digests, 0, truth), [])

    def test_another_question(self):
        court = court_of(3)
        self.takes(court, 0, ask(3), TRUE.claim(0), TRUE.claim(1), LATE.claim(1))
        self.assertEqual(self.letters(court, 0), [])
        self.assertEqual(self.letters(court, 1), [TRUE.halve(1, TRUE.claimed())])

    def test_false_histories(self):
        for turn in (("word", 6, 200, 999), ("told", 3, (1, 2)), ("word", 3, 31, 1)):
            own = row(61, IMAGE, (), 3, turn)
            false = history(own, turn)
            court = court_of(3)
            self.assertEqual(letters_for(court, DIGESTS, 0, false), [own.claim(0)])
            self.takes(court, 0, own.claim(0))
            self.assertEqual(letters_for(court, DIGESTS, 0, false), [])
            if own.root(3, 0) != TRUE.root(3, 0):
                self.takes(court, 1, TRUE.claim(0))
            else:
                self.takes(court, 1, LATE.claim(0))
            self.assertEqual(letters_for(court, DIGESTS, 0, false), [own.halve(0, own.claimed())])

    def test_the_proving_of_a_turned_step_is_sent_again(self):
        court = court_of(3)
        self.claimed(court, TRUE, LATE)
        self.halved(court, 6, TRUE, LATE)
        letter = LATE.prove(0, LATE.edge(0, 5))
        false = history(LATE, ("word", 6, 200, 999))
        for _ in range(3):
            self.assertEqual(letters_for(court, DIGESTS, 0, false), [letter])
            self.refuses(court, "step", letter)

    def test_against_own_reckoning(self):
        drawn = random.Random(901)
        rows = [TRUE, LATE, EARLY, false_row(3, 8), twice_false_row(3, 2, 7)]
        turns = [None, ("word", 6, 200, 999), ("word", 2, 200, 999), ("word", 8, 200, 999)]
        histories = [history(own, turn) for own, turn in zip(rows, turns)]
        for _ in range(30):
            court = court_of(3)
            for _ in range(60):
                own = drawn.choice(rows)
                letters = playermodel.letters_for(court, 0, own)
                if letters:
                    court.receive(drawn.randrange(3), drawn.choice(letters))
                place = drawn.randrange(4)
                self.assertEqual(letters_for(court, DIGESTS, 0, histories[place]),
                                 playermodel.letters_for(court, 0, rows[place]))


class HonestPlayers(Taking, unittest.TestCase):
    """Points 900 and 902."""

    def test_the_number(self):
        for player in (0, 3, 5):
            self.assertEqual(Honest(player, DIGESTS).player(), player)

    def test_several_questions_in_ascending_order(self):
        court = court_of(3, patience=4)
        own = row(61, TELLS[0], (4,), 2)
        self.takes(court, 0, ask(2, (4,), TELLS[0]), ask(0), ask(3))
        honest = Honest(0, DIGESTS)
        self.assertEqual(honest.letters(court), [TRUE.claim(0), own.claim(1), true_row(0).claim(2), TRUE.claim(3)])
        self.takes(court, 1, own.claim(1), LATE.claim(3))
        self.assertEqual(honest.letters(court), [TRUE.claim(0), true_row(0).claim(2), TRUE.claim(3)])
        self.takes(court, 1, TRUE.claim(3))
        self.assertEqual(honest.letters(court), [TRUE.claim(0), true_row(0).claim(2), TRUE.halve(3, TRUE.claimed())])
        ticks(court, 4)
        self.assertIsNotNone(court.accepted(1))
        self.assertEqual(honest.letters(court), [TRUE.claim(0), true_row(0).claim(2), TRUE.halve(3, TRUE.claimed())])

    def test_no_question(self):
        self.assertEqual(Honest(0, DIGESTS).letters(court_of()), [])

    def test_the_answer_of_another_question(self):
        own = row(61, TELLS[0], (4,), 4)
        court = court_of(patience=1)
        self.takes(court, 0, ask(4, (4,), TELLS[0]), own.claim(0))
        ticks(court, 1)
        self.takes(court, 0, ask(4, ("answer", 0), TELLS[0]))
        self.assertEqual(Honest(1, DIGESTS).letters(court), [row(61, TELLS[0], (5, 4, 9), 4).claim(1)])

    def test_only_what_the_court_tells(self):
        court = court_of(3)
        honest = Honest(0, DIGESTS)
        for _ in range(3):
            for own in (TRUE, LATE):
                for letter in playermodel.letters_for(court, 0, own):
                    court.receive(1, letter)
            before = told_by(court)
            self.assertEqual(honest.letters(Telling(court)), HonestModel(61).letters(court))
            self.assertEqual(told_by(court), before)

    def test_letters_that_had_their_effect_do_not_come_again(self):
        court = court_of(3)
        self.takes(court, 1, LATE.claim(0))
        honest, seen = Honest(0, DIGESTS), []
        for _ in range(12):
            letters = honest.letters(court)
            self.assertEqual(honest.letters(court), letters)
            self.takes(court, 0, *letters)
            seen += letters
            for letter in playermodel.letters_for(court, 0, LATE):
                court.receive(1, letter)
        self.assertEqual(len(seen), len(set(seen)))
        self.assertEqual([letter[0] for letter in seen], ["claim", "halve", "halve", "halve", "prove"])

    def test_lists_are_new(self):
        court = court_of(3)
        honest = Honest(0, DIGESTS)
        honest.letters(court).clear()
        self.assertEqual(honest.letters(court), [TRUE.claim(0)])


class Ways(unittest.TestCase):
    def test_the_ways(self):
        self.assertEqual(WAYS, ("word", "told", "flood", "copy", "lazy", "random"))


class Liars(Taking, unittest.TestCase):
    """Points 903 and 904."""

    def test_the_number(self):
        for way in WAYS:
            self.assertEqual(Liar(4, DIGESTS, way, 7).player(), 4)

    def test_draws_by_hand(self):
        draws = Draws(5)
        self.assertEqual(draws.drawn(8), (5 * 16807 + 29) // 7 % 8)
        self.assertEqual(draws.number, 84064)
        self.assertEqual(draws.drawn(256), (84064 * 16807 + 29) % 2147483647 // 7 % 256)

    def test_the_first_lies_step_by_step(self):
        for number in (0, 1, 5, 99999):
            draws = Draws(number)
            turn = ("word", 1 + draws.drawn(8), draws.drawn(256), draws.drawn(65536))
            own = row(61, IMAGE, (), 3, turn)
            self.assertEqual(Liar(1, DIGESTS, "word", number).letters(court_of(3)), [own.claim(0)])
            draws = Draws(number)
            step, many = 1 + draws.drawn(8), draws.drawn(4)
            turn = ("told", step, tuple([draws.drawn(65536) for _ in range(many)]))
            own = row(61, IMAGE, (), 3, turn)
            self.assertEqual(Liar(1, DIGESTS, "told", number).letters(court_of(3)), [own.claim(0)])

    def test_lazy_step_by_step(self):
        kinds = set()
        for number in range(12):
            draws = Draws(number)
            liar, court = Liar(1, DIGESTS, "lazy", number), court_of(3)
            own = None
            for _ in range(4):
                letters = liar.letters(court)
                if draws.drawn(3) != 0:
                    self.assertEqual(letters, [])
                    kinds.add("none")
                    continue
                if own is None:
                    turn = ("word", 1 + draws.drawn(8), draws.drawn(256), draws.drawn(65536))
                    own = row(61, IMAGE, (), 3, turn)
                self.assertEqual(letters, [own.claim(0)])
                kinds.add("claim")
        self.assertEqual(kinds, {"none", "claim"})

    def test_flood_at_first(self):
        draws = Draws(77)
        rows = [row(61, IMAGE, (), 3, ("word", 1 + draws.drawn(8), draws.drawn(256), draws.drawn(65536)))
                for _ in range(3)]
        expected = [own.claim(0) for own in rows] + [TRUE.claim(0)]
        self.assertEqual(Liar(1, DIGESTS, "flood", 77).letters(court_of(3)), expected)

    def test_copy(self):
        liar, court = Liar(1, DIGESTS, "copy", 3), court_of(3)
        self.takes(court, 0, ask(2), LATE.claim(0))
        self.assertEqual(liar.letters(court), [TRUE.claim(0), true_row(2).claim(1)])
        self.takes(court, 0, TRUE.claim(0))
        self.assertEqual(liar.letters(court), [true_row(2).claim(1)])
        self.takes(court, 0, true_row(2).claim(1), LATE.halve(0, LATE.claimed()))
        self.assertEqual(liar.letters(court), [])

    def test_random_without_an_edge(self):
        liar, court = Liar(1, DIGESTS, "random", 3), court_of(3)
        for _ in range(3):
            self.assertEqual(liar.letters(court), [])
        self.takes(court, 0, TRUE.claim(0))
        draws = Draws(3)
        self.assertEqual((draws.drawn(1), draws.drawn(1)), (0, 0))
        left, right, last, path = TRUE.halves(3, 0)
        expected = (right, left) if draws.drawn(2) == 0 else (left, right)
        self.assertEqual(liar.letters(court), [("halve", 0) + TRUE.claimed() + expected + (last, path)])

    def test_random_at_level_0(self):
        own = true_row(0)
        court = court_of(0)
        self.takes(court, 0, own.claim(0))
        self.assertEqual(Liar(1, DIGESTS, "random", 8).letters(court), [own.prove(0, own.claimed())])

    def test_lies_are_kept_by_the_question(self):
        court = court_of(3)
        self.takes(court, 0, ask(3), ask(2))
        for way in ("word", "told"):
            liar = Liar(1, DIGESTS, way, 11)
            first = liar.letters(court)
            self.assertEqual([letter[:2] for letter in first], [("claim", 0), ("claim", 1), ("claim", 2)])
            self.assertNotEqual(first[0][2:], first[1][2:])
            for _ in range(3):
                self.assertEqual(liar.letters(court), first)

    def test_decided_questions(self):
        court = court_of(3, patience=1)
        self.takes(court, 0, LATE.claim(0), ask(2))
        ticks(court, 1)
        self.assertIsNotNone(court.accepted(0))
        for way in WAYS:
            for number in range(6):
                liar, model = Liar(1, DIGESTS, way, number), LiarModel(61, way, number)
                letters = liar.letters(court)
                self.assertEqual({letter[1] for letter in letters} - {1}, set())
                self.assertEqual(letters, model.letters(court))

    def test_each_way_against_own_reckoning(self):
        for way in WAYS:
            kinds = {}
            for number in (0, 1, 2, 7, 1000, 99999):
                with self.subTest(way=way, number=number):
                    self.follow(random.Random(number), way, number, kinds)
            if way != "copy":
                self.assertGreater(kinds.get("halve", 0), 5, way)
                self.assertGreater(kinds.get("prove", 0), 2, way)
            else:
                self.assertEqual(list(kinds), ["claim"])

    def follow(self, drawn, way, number, kinds):
        """Lets a liar and others play, and looks at all letters of the liar."""
        court = court_of(2, patience=60, coins=(10000, 10000, 10000))
        liar, model = Liar(1, DIGESTS, way, number), LiarModel(61, way, number)
        honest, other = HonestModel(61), LiarModel(61, "word", 4)
        for turn in range(25):
            letters = liar.letters(Telling(court))
            self.assertEqual(letters, model.letters(court))
            for letter in letters:
                kinds[letter[0]] = kinds.get(letter[0], 0) + 1
            for player, found in ((1, letters), (0, honest.letters(court)), (2, other.letters(court))):
                for letter in found:
                    if drawn.random() < 0.8:
                        court.receive(player, letter)
            if turn == 6:
                court.receive(0, ask(3))
            if turn == 9:
                court.receive(0, ask(0))
            court.tick()

    def test_other_bits(self):
        for bits in (13, 31):
            digests = Digests(bits, None)
            for way in WAYS:
                court = court_of(2, bits=bits)
                liar, model = Liar(1, digests, way, 9), LiarModel(bits, way, 9)
                for _ in range(4):
                    letters = liar.letters(court)
                    self.assertEqual(letters, model.letters(court))
                    for letter in letters:
                        court.receive(2, letter)

    def test_true_histories_are_not_turned(self):
        court = court_of(3)
        self.assertEqual(Liar(0, DIGESTS, "copy", 0).letters(court), Honest(0, DIGESTS).letters(court))
        self.assertEqual(Row(61, memory(COUNTS[0], ()), 3).row, TRUE.row)


if __name__ == "__main__":
    unittest.main()
