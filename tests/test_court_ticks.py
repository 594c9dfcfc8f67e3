"""Points 810 to 813: time, timers, acceptance and coins."""

import unittest

from disputes import (
    BOND, COINS, IMAGE, Taking, ask, court_of, false_row, ticks, true_row, twice_false_row, without_log,
)
from rows import TELLS, row

TRUE = true_row(3)
LATE = false_row(3, 6)
EARLY = false_row(3, 2)


class Time(Taking, unittest.TestCase):
    def test_the_number_of_ticks(self):
        court = court_of(3)
        for time in range(5):
            self.assertEqual(court.time(), time)
            self.assertEqual(court.tick(), [])

    def test_letters_take_no_time(self):
        court = court_of(3)
        ticks(court, 2)
        self.claimed(court, TRUE, LATE)
        self.assertEqual(court.time(), 2)


class Timers(Taking, unittest.TestCase):
    def test_without_a_rival(self):
        court = court_of(3)
        ticks(court, 3)
        self.takes(court, 0, TRUE.claim(0))
        for timer in range(10):
            self.assertEqual(court.timer(0, TRUE.claimed()), timer)
            court.tick()

    def test_with_a_rival_from_some_time_on(self):
        court = court_of(3)
        self.takes(court, 0, TRUE.claim(0))
        ticks(court, 4)
        self.takes(court, 1, LATE.claim(0))
        for _ in range(4):
            self.assertEqual(court.timer(0, TRUE.claimed()), 4)
            self.assertEqual(court.timer(0, LATE.claimed()), 0)
            court.tick()
        self.takes(court, 2, EARLY.claim(0))
        court.tick()
        self.assertEqual([court.timer(0, own.claimed()) for own in (TRUE, LATE, EARLY)], [4, 0, 0])

    def test_a_rival_in_the_tick_in_which_the_edge_stands(self):
        court = court_of(3)
        court.tick()
        self.claimed(court, TRUE, LATE)
        court.tick()
        self.assertEqual([court.timer(0, own.claimed()) for own in (TRUE, LATE)], [0, 0])

    def test_halved(self):
        court = court_of(3)
        self.takes(court, 0, TRUE.claim(0))
        ticks(court, 3)
        self.takes(court, 1, LATE.claim(0))
        self.takes(court, 0, TRUE.halve(0, TRUE.claimed()))
        whole, left, right = TRUE.claimed(), TRUE.edge(2, 0), TRUE.edge(2, 1)
        self.assertEqual(court.timer(0, whole), 3)
        ticks(court, 2)
        self.assertEqual([court.timer(0, edge) for edge in (whole, left, right)], [5, 2, 2])
        self.takes(court, 1, LATE.halve(0, LATE.claimed()))
        ticks(court, 4)
        # The left half goes on, the right one has a rival: the lesser one counts.
        self.assertEqual([court.timer(0, edge) for edge in (whole, left, right)], [5, 6, 2])
        self.assertEqual([court.timer(0, edge) for edge in (LATE.claimed(), LATE.edge(2, 1))], [0, 0])
        self.takes(court, 0, TRUE.halve(0, right))
        ticks(court, 3)
        self.assertEqual([court.timer(0, edge) for edge in (whole, left, right)], [8, 9, 5])
        self.assertEqual([court.timer(0, edge) for edge in TRUE.half_edges(right)], [3, 3])

    def test_the_left_half_may_be_the_lesser_one(self):
        court = court_of(3)
        self.claimed(court, TRUE, EARLY)
        for own in (TRUE, EARLY):
            self.takes(court, 0, own.halve(0, own.claimed()))
        ticks(court, 4)
        for own in (TRUE, EARLY):
            self.assertEqual([court.timer(0, own.edge(2, index)) for index in (0, 1)], [0, 4])
            self.assertEqual(court.timer(0, own.claimed()), 0)

    def test_proven(self):
        court = court_of(3)
        self.claimed(court, TRUE, LATE)
        self.halved(court, 6, TRUE, LATE)
        ticks(court, 5)
        step, pair = TRUE.edge(0, 5), TRUE.edge(1, 2)
        self.assertEqual(court.timer(0, step), 0)
        self.takes(court, 0, TRUE.prove(0, step))
        self.assertIsNone(court.timer(0, step))
        # The left half of the pair has no rival, and no end is greater than any timer.
        self.assertEqual(court.timer(0, TRUE.edge(0, 4)), 5)
        self.assertEqual(court.timer(0, pair), 5)
        self.assertEqual(court.timer(0, TRUE.edge(2, 1)), 5)
        self.assertEqual(court.timer(0, TRUE.claimed()), 5)
        self.assertEqual(court.timer(0, LATE.claimed()), 0)
        ticks(court, 2)
        self.assertIsNone(court.timer(0, step))
        self.assertEqual(court.timer(0, TRUE.claimed()), 7)

    def test_proven_with_counted_ticks(self):
        court = court_of(0)
        own, other = true_row(0), false_row(0, 1)
        self.takes(court, 0, own.claim(0))
        ticks(court, 3)
        self.takes(court, 1, other.claim(0))
        self.assertEqual(court.timer(0, own.claimed()), 3)
        self.takes(court, 0, own.prove(0, own.claimed()))
        self.assertIsNone(court.timer(0, own.claimed()))

    def test_both_halves_without_end(self):
        court = court_of(1)
        own = true_row(1)
        rows = (own, false_row(1, 1), false_row(1, 2))
        self.claimed(court, *rows)
        for one in rows:
            self.takes(court, 0, one.halve(0, one.claimed()))
        self.takes(court, 0, own.prove(0, own.edge(0, 0)))
        self.assertEqual(court.timer(0, own.claimed()), 0)
        self.assertEqual(court.timer(0, rows[2].claimed()), 0)
        self.takes(court, 0, own.prove(0, own.edge(0, 1)))
        self.assertIsNone(court.timer(0, own.claimed()))
        self.assertEqual([court.timer(0, one.claimed()) for one in rows[1:]], [0, 0])
        self.assertEqual(court.tick(), [0])
        self.assertEqual(court.accepted(0), own.root(1, 0))

    def test_the_ticks_of_an_edge_count_beside_its_halves(self):
        court = court_of(3)
        self.claimed(court, TRUE, LATE)
        self.takes(court, 0, TRUE.halve(0, TRUE.claimed()))
        ticks(court, 2)
        self.takes(court, 0, LATE.halve(0, LATE.claimed()))
        self.takes(court, 0, TRUE.halve(0, TRUE.edge(2, 1)))
        ticks(court, 3)
        self.assertEqual(court.timer(0, TRUE.edge(2, 1)), 5)
        self.assertEqual(court.timer(0, TRUE.claimed()), 5)

    def test_what_is_asked_changes_nothing(self):
        court = court_of(3)
        self.claimed(court, TRUE, LATE)
        self.halved(court, 6, TRUE, LATE)
        first = without_log(court)
        for _ in range(3):
            self.assertEqual(without_log(court), first)


class Acceptance(Taking, unittest.TestCase):
    def test_by_patience(self):
        for patience in (1, 2, 5):
            court = court_of(3, patience)
            ticks(court, 2)
            self.takes(court, 1, TRUE.claim(0))
            for _ in range(patience - 1):
                self.assertEqual(court.tick(), [])
                self.assertIsNone(court.accepted(0))
                self.assertIsNone(court.answer(0))
            self.assertEqual(court.timer(0, TRUE.claimed()), patience - 1)
            self.assertEqual(court.tick(), [0])
            self.assertEqual(court.accepted(0), TRUE.root(3, 0))
            self.assertEqual(court.answer(0), ("long", ()))
            self.assertEqual(court.coins(), COINS)
            self.assertEqual(court.held(), 0)

    def test_answers(self):
        own = row(61, TELLS[0], (4,), 4)
        court = court_of(patience=1)
        self.takes(court, 0, ask(4, (4,), TELLS[0]), own.claim(0))
        court.tick()
        self.assertEqual(court.answer(0), ("done", (5, 4, 9)))

    def test_a_question_without_claims_is_never_decided(self):
        court = court_of(3, 1)
        self.assertEqual(ticks(court, 20), [[]] * 20)

    def test_once(self):
        court = court_of(3, 2)
        self.takes(court, 0, TRUE.claim(0))
        self.assertEqual(ticks(court, 5), [[], [0], [], [], []])

    def test_a_false_claim_that_nobody_disputes(self):
        court = court_of(3, 3)
        self.takes(court, 2, LATE.claim(0))
        ticks(court, 3)
        self.assertEqual(court.accepted(0), LATE.root(3, 0))

    def test_by_a_proof(self):
        for winner in (0, 1):
            court = court_of(0, 1000)
            rows = (true_row(0), false_row(0, 1))
            self.takes(court, winner, rows[0].claim(0))
            self.takes(court, 1 - winner, rows[1].claim(0))
            self.assertEqual(ticks(court, 3), [[]] * 3)
            self.takes(court, 2, rows[0].prove(0, rows[0].claimed()))
            self.assertIsNone(court.accepted(0))
            self.assertEqual(court.tick(), [0])
            self.assertEqual(court.accepted(0), rows[0].root(0, 0))
            expected = [100, 100, 100, 7]
            expected[winner] += BOND
            expected[1 - winner] -= BOND
            self.assertEqual(court.coins(), tuple(expected))

    def test_by_patience_behind_a_proof(self):
        court = court_of(3, 6)
        self.claimed(court, TRUE, LATE)
        self.halved(court, 6, TRUE, LATE)
        ticks(court, 7)
        self.assertIsNone(court.accepted(0))
        self.takes(court, 0, TRUE.prove(0, TRUE.edge(0, 5)))
        self.assertEqual(court.tick(), [0])
        self.assertEqual(court.accepted(0), TRUE.root(3, 0))

    def test_the_owner_gets_all_bonds(self):
        court = court_of(3, 4)
        self.takes(court, 1, TRUE.claim(0))
        for player, own in ((0, LATE), (2, EARLY), (2, false_row(3, 8))):
            self.takes(court, player, own.claim(0))
        self.assertEqual((court.coins(), court.held()), ((90, 90, 80, 7), 40))
        self.takes(court, 2, TRUE.halve(0, TRUE.claimed()))
        self.assertEqual(ticks(court, 4), [[], [], [], [0]])
        self.assertEqual((court.coins(), court.held()), ((90, 130, 80, 7), 0))

    def test_several_questions_in_one_tick(self):
        court = court_of(3, 3)
        self.takes(court, 0, ask(1), ask(2), ask(2))
        for number, own in ((2, true_row(2)), (0, TRUE), (3, true_row(2))):
            self.takes(court, 1, own.claim(number))
        court.tick()
        self.takes(court, 0, true_row(1).claim(1))
        self.assertEqual(ticks(court, 4), [[], [0, 2, 3], [1], []])

    def test_no_letter_changes_a_decided_question(self):
        court = court_of(3, 2)
        self.claimed(court, TRUE, LATE)
        self.takes(court, 0, LATE.halve(0, LATE.claimed()))
        self.assertEqual(ticks(court, 2), [[], [0]])
        self.assertEqual(court.accepted(0), LATE.root(3, 0))
        self.refuses(court, "closed", EARLY.claim(0), TRUE.halve(0, TRUE.claimed()))
        ticks(court, 10)
        self.assertEqual(court.accepted(0), LATE.root(3, 0))
        self.assertEqual(court.answer(0), LATE.answer())

    def test_edges_of_a_decided_question_count_no_more(self):
        court = court_of(3, 5)
        self.claimed(court, TRUE, LATE)
        self.takes(court, 0, TRUE.halve(0, TRUE.claimed()), ask(3), TRUE.claim(1))
        ticks(court, 3)
        self.takes(court, 2, ask(3), LATE.claim(2))
        self.assertEqual(ticks(court, 2), [[], [0, 1]])
        before = without_log(court)["questions"][:2]
        self.assertEqual(court.timer(0, TRUE.edge(2, 0)), 5)
        self.assertEqual(ticks(court, 3), [[], [], [2]])
        ticks(court, 7)
        self.assertEqual(without_log(court)["questions"][:2], before)
        self.assertEqual(court.timer(0, TRUE.edge(2, 0)), 5)
        self.assertEqual(court.timer(2, LATE.claimed()), 5)

    def test_a_question_about_the_answer_of_another_one(self):
        own = row(61, TELLS[0], (4,), 4)
        court = court_of(patience=2)
        self.takes(court, 0, ask(4, (4,), TELLS[0]), own.claim(0))
        ticks(court, 2)
        self.takes(court, 1, ("ask", TELLS[0], ("answer", 0), 4))
        other = row(61, TELLS[0], (5, 4, 9), 4)
        self.takes(court, 1, other.claim(1))
        self.assertEqual(ticks(court, 2), [[], [1]])
        self.assertEqual(court.answer(1), ("done", (5, 5, 9)))


class SeveralAtOnce(Taking, unittest.TestCase):
    """Claims whose timers come to the patience in one tick."""

    def rows(self, word):
        """The true row, one with a lie at step 1, and one with another one behind it."""
        return (true_row(1), false_row(1, 1, word),
                row(61, IMAGE, (), 1, ("word", 1, 200, word), ("word", 2, 201, 5)))

    def court_at(self, own, once, twice, behind):
        """A court in which the timers of the first two claims go from 0 to 5 and to the number of ticks behind."""
        court = court_of(1, 5)
        self.claimed(court, own, once, twice)
        for one in (once, twice):
            self.takes(court, 0, one.halve(0, one.claimed()))
        ticks(court, 5)
        self.takes(court, 0, own.halve(0, own.claimed()))
        ticks(court, behind - 1)
        self.assertEqual([court.timer(0, one.claimed()) for one in (own, once, twice)], [0, 0, 0])
        self.takes(court, 0, own.prove(0, own.edge(0, 0)), once.prove(0, once.edge(0, 1)))
        return court

    def test_equal_timers(self):
        least = []
        for word in range(900, 912):
            own, once, twice = self.rows(word)
            court = self.court_at(own, once, twice, 5)
            self.assertEqual(court.tick(), [0])
            self.assertEqual([court.timer(0, one.claimed()) for one in (own, once, twice)], [5, 5, 0])
            roots = (own.root(1, 0), once.root(1, 0))
            self.assertEqual(court.accepted(0), min(roots))
            winner = roots.index(min(roots))
            self.assertEqual(court.answer(0), (own, once)[winner].answer())
            self.assertEqual(court.coins(), ((120, 90, 90, 7), (90, 120, 90, 7))[winner])
            least.append(winner)
        self.assertEqual(set(least), {0, 1})

    def test_different_timers(self):
        least = []
        for word in range(900, 912):
            own, once, twice = self.rows(word)
            court = self.court_at(own, once, twice, 8)
            self.assertEqual(court.tick(), [0])
            self.assertEqual([court.timer(0, one.claimed()) for one in (own, once)], [8, 5])
            self.assertEqual(court.accepted(0), min(own.root(1, 0), once.root(1, 0)))
            least.append(own.root(1, 0) < once.root(1, 0))
        self.assertEqual(set(least), {True, False})

    def test_one_of_them_without_end(self):
        least = []
        for word in range(900, 912):
            own, once, twice = self.rows(word)
            court = self.court_at(own, once, twice, 8)
            other = false_row(1, 2)
            self.takes(court, 2, other.claim(0), other.halve(0, other.claimed()), own.prove(0, own.edge(0, 1)))
            self.assertIsNone(court.timer(0, own.claimed()))
            self.assertEqual(court.tick(), [0])
            self.assertEqual(court.accepted(0), min(own.root(1, 0), once.root(1, 0)))
            least.append(own.root(1, 0) < once.root(1, 0))
        self.assertEqual(set(least), {True, False})


class Coins(Taking, unittest.TestCase):
    """Point 813."""

    def test_behind_each_letter_and_each_tick(self):
        court = court_of(coins=(35, 20, 0, 10), patience=6)
        letters = [ask(3), ask(0), ask(3), TRUE.claim(0), LATE.claim(0), None, true_row(0).claim(1), EARLY.claim(0),
                   TRUE.claim(2), false_row(0, 1).claim(1), TRUE.halve(0, TRUE.claimed()), LATE.claim(2)]
        letters += [true_row(0).prove(1, true_row(0).claimed()), LATE.claim(0), EARLY.claim(2)]
        words = []
        for place, letter in enumerate(letters * 3):
            words.append(court.receive(place % 4, letter))
            self.look_at(court, 65)
            if place % 4 == 3:
                court.tick()
                self.look_at(court, 65)
        self.assertIn("coins", words)
        self.assertEqual([number for number in range(9) if court.accepted(number) is not None], [0, 1])

    def look_at(self, court, many):
        self.assertEqual(sum(court.coins()) + court.held(), many)
        self.assertGreaterEqual(min(court.coins()), 0)
        open_claims = [len(court.claims(number)) for number in range(court.count()) if court.accepted(number) is None]
        self.assertEqual(court.held(), BOND * sum(open_claims))

    def test_held_by_several_questions(self):
        court = court_of(3, 2)
        self.takes(court, 0, ask(3), TRUE.claim(0), TRUE.claim(1), LATE.claim(1))
        self.assertEqual(court.held(), 30)
        ticks(court, 2)
        self.assertEqual(court.held(), 20)
        self.assertEqual(court.coins(), (80, 100, 100, 7))

    def test_the_coins_of_a_court(self):
        self.assertEqual(court_of(coins=(0,)).coins(), (0,))
        self.assertEqual(court_of(coins=(1, 2, 3)).coins(), (1, 2, 3))
        self.assertIs(type(court_of().coins()), tuple)


class Rows(unittest.TestCase):
    def test_the_rows_of_these_tests(self):
        self.assertNotEqual(twice_false_row(3, 2, 7).root(3, 0), EARLY.root(3, 0))
        self.assertEqual(EARLY.row[0], TRUE.row[0])
        self.assertNotEqual(EARLY.row[1], TRUE.row[1])
        self.assertEqual(LATE.row[:5], TRUE.row[:5])


if __name__ == "__main__":
    unittest.main()
