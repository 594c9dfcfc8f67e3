"""Points 806 to 809: the words for letters, and what they do."""

import unittest

import reckoning
from courtmodel import told_by
from disputes import (
    BOND, COINS, IMAGE, Taking, ask, court_of, false_row, put, start_of, ticks, true_row, twice_false_row, without_log,
)
from reckoning import NO_INTEGERS
from rows import TELLS, row
from test_letters import WRONG

TRUE = true_row(3)
FALSE = false_row(3, 6)
OTHER = false_row(3, 2)
# For FALSE: the edge of its claim, those of its right half and of its step 6.
WHOLE, RIGHT, PAIR, STEP = FALSE.way_to(6)


class Asking(Taking, unittest.TestCase):
    def test_a_court_at_first(self):
        court = court_of()
        self.assertEqual(without_log(court), {"time": 0, "coins": COINS, "count": 0, "held": 0, "questions": []})
        self.assertEqual(court.log(), [])

    def test_questions_get_the_next_numbers(self):
        court = court_of()
        for number, (level, inputs) in enumerate(((0, ()), (3, (1, 2)), (8, (65535,) * 16), (3, (1, 2)))):
            self.takes(court, number % 3, ask(level, inputs))
            self.assertEqual(court.count(), number + 1)
            start = start_of(61, IMAGE, inputs)
            self.assertEqual(court.question(number), (start, level, IMAGE, inputs))
            self.assertEqual((court.edges(number), court.claims(number)), ([], []))
            self.assertIsNone(court.accepted(number))
            self.assertIsNone(court.answer(number))
        self.assertEqual(court.coins(), COINS)

    def test_images(self):
        for image in ((), (5,), (65535,) * 239):
            court = court_of()
            self.takes(court, 0, ask(2, (3,), image))
            self.assertEqual(court.question(0), (start_of(61, image, (3,)), 2, image, (3,)))
        self.refuses(court_of(), "letter", ask(2, (), (0,) * 240))

    def test_everybody_may_ask_without_coins(self):
        court = court_of(coins=(0, 0))
        self.takes(court, 1, ask(1))
        self.assertEqual(court.coins(), (0, 0))

    def test_answers_of_questions_that_there_are_not(self):
        court = court_of()
        self.refuses(court, "question", ask(1, ("answer", 0)), ask(1, ("answer", 10 ** 20)))
        self.takes(court, 0, ask(1))
        self.refuses(court, "question", ask(1, ("answer", 1)))

    def test_answers_of_questions_that_are_not_decided(self):
        court = court_of(1)
        self.refuses(court, "open", ask(1, ("answer", 0)))
        self.takes(court, 0, true_row(1).claim(0))
        self.refuses(court, "open", ask(1, ("answer", 0)))
        ticks(court, 49)
        self.refuses(court, "open", ask(1, ("answer", 0)))
        self.assertEqual(court.tick(), [0])
        self.takes(court, 0, ask(1, ("answer", 0)))
        self.assertEqual(court.question(1), (start_of(61, IMAGE, ()), 1, IMAGE, ()))

    def test_an_answer_as_inputs(self):
        own = row(61, TELLS[0], (4, 5), 4)
        self.assertEqual(own.answer(), ("done", (5, 4, 9)))
        court = court_of(patience=1)
        self.takes(court, 0, ask(4, (4, 5), TELLS[0]), own.claim(0))
        ticks(court, 1)
        self.takes(court, 1, ask(2, ("answer", 0)))
        self.assertEqual(court.question(1), (start_of(61, IMAGE, (5, 4, 9)), 2, IMAGE, (5, 4, 9)))
        self.takes(court, 1, true_row(2, (5, 4, 9)).claim(1))
        ticks(court, 1)
        self.assertEqual(court.accepted(1), true_row(2, (5, 4, 9)).root(2, 0))


class NoLetters(Taking, unittest.TestCase):
    def test_other_values(self):
        court = court_of(3)
        for value in WRONG:
            before = without_log(court)
            self.assertEqual(court.receive(2, value), "letter")
            self.assertEqual(without_log(court), before)
            time, player, letter, word = court.log()[-1]
            self.assertEqual((time, player, word), (0, 2, "letter"))
            if not isinstance(value, list):
                self.assertIs(type(letter), type(value))

    def test_letters_with_a_part_that_is_none(self):
        court = court_of(3)
        self.claimed(court, TRUE, FALSE)
        letters = (ask(3), OTHER.claim(0), FALSE.halve(0, WHOLE), FALSE.prove(0, STEP))
        for letter in letters:
            for place in range(1, len(letter)):
                if letter[0] == "prove" and place == 6:
                    continue
                for value in NO_INTEGERS + (-1,):
                    if not isinstance(value, tuple):
                        self.refuses(court, "letter", put(letter, place, value))
            self.refuses(court, "letter", letter + (0,), letter[:-1], list(letter))

    def test_ahead_of_all_other_reasons(self):
        court = court_of()
        self.refuses(court, "letter", put(TRUE.claim(0), 2, -1), put(TRUE.halve(0, WHOLE), 2, -1), ask(9),
                     put(TRUE.prove(0, STEP), 3, 2 ** 61 - 1), ask(9, ("answer", 5)))


class Questions(Taking, unittest.TestCase):
    def letters(self, number):
        return (TRUE.claim(number), FALSE.claim(number), FALSE.halve(number, WHOLE), FALSE.prove(number, STEP),
                put(FALSE.claim(number), 2, 0))

    def test_no_such_question(self):
        court = court_of()
        self.refuses(court, "question", *self.letters(0))
        self.takes(court, 0, ask(3))
        self.refuses(court, "question", *self.letters(1), *self.letters(10 ** 20))

    def test_a_question_that_is_decided(self):
        court = court_of(3, patience=2)
        self.claimed(court, TRUE, FALSE)
        self.takes(court, 0, TRUE.halve(0, TRUE.claimed()))
        ticks(court, 2)
        self.assertIsNotNone(court.accepted(0))
        # Each of these would have another reason, or none, if the question were not decided.
        self.refuses(court, "closed", *self.letters(0), OTHER.claim(0), TRUE.halve(0, TRUE.claimed()), player=3)
        self.takes(court, 0, ask(3))
        self.takes(court, 0, TRUE.claim(1))
        self.refuses(court, "closed", *self.letters(0))


class Claims(Taking, unittest.TestCase):
    def test_the_effect(self):
        court = court_of(3)
        ticks(court, 4)
        self.takes(court, 1, TRUE.claim(0))
        self.assertEqual(court.coins(), (100, 90, 100, 7))
        self.assertEqual(court.held(), BOND)
        edge = (3, 0, 5, TRUE.start, TRUE.root(3, 0))
        self.assertEqual(court.edges(0), [edge])
        self.assertEqual(court.claims(0), [(TRUE.root(3, 0), 1, ("long", ()))])
        self.assertEqual((court.timer(0, edge), court.halves(0, edge)), (0, None))
        self.assertIs(court.has_rival(0, edge), False)
        self.assertIs(court.is_proven(0, edge), False)

    def test_each_level(self):
        for level in range(9):
            court = court_of(level)
            own = true_row(level)
            self.takes(court, 0, own.claim(0))
            self.assertEqual(court.edges(0), [(level, 0, 5, own.start, own.root(level, 0))])

    def test_answers(self):
        for image, mark in ((TELLS[0], "done"), ((0,), "bad"), ((1024 * 16 + 9,), "divided"),
                            ((1024 * 9,), "place"), ((1024 * 10 + 239,), "input"), ((1024 * 28, 1024 * 23), "full"),
                            ((1024 * 28, 1024 * 23 + 5, 0, 0, 0, 1024 * 23 + 5), "long")):
            own = row(61, image, (), 7)
            court = court_of()
            self.takes(court, 0, ask(7, (), image), own.claim(0))
            self.assertEqual(own.answer()[0], mark)
            self.assertEqual(court.claims(0), [(own.root(7, 0), 0, own.answer())])

    def test_claims_in_ascending_order(self):
        rows = [TRUE, FALSE, OTHER, false_row(3, 8), false_row(3, 1)]
        for order in ([0, 1, 2, 3, 4], [4, 3, 2, 1, 0], [2, 4, 1, 0, 3]):
            court = court_of(3)
            for place in order:
                self.takes(court, place % 3, rows[place].claim(0))
            expected = sorted((own.root(3, 0), place % 3, own.answer()) for place, own in enumerate(rows))
            self.assertEqual(court.claims(0), expected)
            self.assertEqual(court.edges(0), sorted(own.claimed() for own in rows))

    def test_stands(self):
        court = court_of(3)
        self.takes(court, 0, TRUE.claim(0))
        self.refuses(court, "stands", TRUE.claim(0), player=0)
        self.refuses(court, "stands", TRUE.claim(0), player=1)
        # Ahead of the answer and the coins.
        self.refuses(court, "stands", put(TRUE.claim(0), 3, 0), put(TRUE.claim(0), 4, ()), player=2)
        self.refuses(court, "stands", TRUE.claim(0), put(TRUE.claim(0), 3, 0), player=3)

    def test_the_same_claim_in_another_question(self):
        court = court_of(3)
        self.takes(court, 0, TRUE.claim(0), ask(3), TRUE.claim(1))
        self.assertEqual(court.edges(0), court.edges(1))

    def test_each_part_of_the_answer(self):
        own = row(61, TELLS[0], (4,), 3)
        letter = own.claim(0)
        path, registers = letter[4], letter[5]
        wrong = [put(letter, place, (letter[place] + 1) % (2 ** 61 - 1)) for place in (2, 3, 6)]
        wrong += [put(letter, 4, value) for value in (
            (), path[:-1], path[1:], path + (0,), path + path, path[::-1], put(path, 0, 1), put(path, 2, 1))]
        wrong += [put(letter, 5, put(registers, place, registers[place] - 1)) for place in (0, 1, 4, 5)]
        wrong += [put(letter, 5, put(registers, place, registers[place] + 1)) for place in (2, 3)]
        wrong += [put(letter, 7, value) for value in ((), (5,), (5, 4), (4, 5, 9), (5, 4, 10), (5, 4, 9, 0), (0, 5, 4, 9))]
        self.assertEqual(letter[7], (5, 4, 9))
        court = court_of()
        self.takes(court, 0, ask(3, (4,), TELLS[0]))
        self.refuses(court, "answer", *wrong)
        # Ahead of the coins.
        self.refuses(court, "answer", *wrong, player=3)
        self.takes(court, 1, letter)

    def test_as_many_words_as_count(self):
        # The state of a liar, whose count is not that of its words.
        registers = (0, 0, 0, 1, reckoning.out_of(61, (1, 2)), 3)
        for count, told, word in ((3, (1, 2), "answer"), (2, (1, 2), "done"), (1, (1, 2), "answer"), (2, (1,), "answer")):
            registers = put(registers, 5, count)
            last = reckoning.state(61, registers + (77,))
            court = court_of(0)
            self.assertEqual(court.receive(0, ("claim", 0, last, last, (), registers, 77, told)), word)

    def test_claims_of_runs_with_another_length(self):
        for level in (2, 4):
            self.refuses(court_of(3), "answer", true_row(level).claim(0))

    def test_a_path_of_another_place(self):
        court = court_of(3)
        first = TRUE.row[6]
        path = reckoning.path(61, TRUE.row, 6)
        registers, root, told, digest = TRUE.states[7]
        self.assertEqual(digest, first)
        self.refuses(court, "answer", ("claim", 0, TRUE.root(3, 0), first, path, registers, root, told))

    def test_coins(self):
        for coins, word in ((0, "coins"), (9, "coins"), (10, "done"), (11, "done")):
            court = court_of(3, coins=(50, coins))
            before = without_log(court)
            self.assertEqual(court.receive(1, TRUE.claim(0)), word)
            if word == "coins":
                self.assertEqual(without_log(court), before)
            else:
                self.assertEqual(court.coins(), (50, coins - 10))

    def test_coins_for_several_claims(self):
        court = court_of(3, coins=(25,))
        self.takes(court, 0, TRUE.claim(0), FALSE.claim(0))
        self.refuses(court, "coins", OTHER.claim(0), player=0)
        self.assertEqual(court.coins(), (5,))


class Halvings(Taking, unittest.TestCase):
    def setUp(self):
        self.court = court_of(3)
        self.claimed(self.court, TRUE, FALSE)

    def test_the_effect(self):
        ticks(self.court, 2)
        self.takes(self.court, 2, FALSE.halve(0, WHOLE))
        left, right = FALSE.half_edges(WHOLE)
        self.assertEqual(self.court.halves(0, WHOLE), (left, right))
        self.assertEqual(self.court.edges(0), sorted([WHOLE, TRUE.claimed(), left, right]))
        self.assertEqual(left, (2, 0, 5, FALSE.start, FALSE.root(2, 0)))
        self.assertEqual(right, (2, 1, reckoning.fold(61, 5, FALSE.root(2, 0)), FALSE.row[3], FALSE.root(2, 1)))
        self.assertEqual(self.court.coins(), (90, 90, 100, 7))
        self.assertIsNone(self.court.halves(0, TRUE.claimed()))

    def test_edges_that_do_not_stand(self):
        self.refuses(self.court, "edge", FALSE.halve(0, RIGHT), FALSE.halve(0, PAIR), OTHER.halve(0, OTHER.claimed()))
        letter = FALSE.halve(0, WHOLE)
        for place in range(2, 7):
            self.refuses(self.court, "edge", put(letter, place, letter[place] + 1))
        # Ahead of all that follows.
        self.refuses(self.court, "edge", put(letter, 2, 0), put(put(letter, 2, 0), 10, (1,)), put(letter, 2, 10 ** 9))

    def test_edges_without_a_rival(self):
        court = court_of(3)
        self.takes(court, 0, TRUE.claim(0))
        letter = TRUE.halve(0, TRUE.claimed())
        # Ahead of the halves.
        self.refuses(court, "rival", letter, put(letter, 7, 0), put(letter, 10, ()))
        self.takes(self.court, 2, FALSE.halve(0, WHOLE))
        self.refuses(self.court, "rival", FALSE.halve(0, RIGHT))

    def test_rival_ahead_of_level(self):
        court = court_of(0)
        own, other = true_row(0), false_row(0, 1)
        self.takes(court, 0, own.claim(0))
        letter = ("halve", 0) + own.claimed() + (1, 2, 3, ())
        self.refuses(court, "rival", letter)
        self.takes(court, 1, other.claim(0))
        self.refuses(court, "level", letter)
        self.takes(court, 1, own.prove(0, own.claimed()))
        self.refuses(court, "level", letter)

    def test_levels_of_0(self):
        self.halved(self.court, 6, TRUE, FALSE)
        for own in (TRUE, FALSE):
            edge = own.edge(0, 5)
            self.refuses(self.court, "level", ("halve", 0) + edge + (edge[4], edge[4], edge[4], ()))

    def test_halved(self):
        letter = FALSE.halve(0, WHOLE)
        self.takes(self.court, 2, letter)
        # Ahead of the halves.
        self.refuses(self.court, "halved", letter, put(letter, 7, 0), put(letter, 10, ()), player=2)

    def test_each_part_of_the_halves(self):
        letter = FALSE.halve(0, WHOLE)
        path = letter[10]
        wrong = [put(letter, place, letter[place] + 1) for place in (7, 8, 9)]
        wrong += [put(put(letter, 7, letter[8]), 8, letter[7])]
        wrong += [put(letter, 10, value) for value in (
            (), path[:1], path[1:], path + (0,), path + path, path[::-1], put(path, 0, 1), put(path, 1, 1))]
        self.assertEqual(len(path), 2)
        self.refuses(self.court, "halves", *wrong)
        self.takes(self.court, 2, letter)

    def test_a_path_of_another_place(self):
        letter = put(FALSE.halve(0, WHOLE), 9, FALSE.row[2])
        self.refuses(self.court, "halves", put(letter, 10, reckoning.path(61, FALSE.row[:4], 2)))

    def test_halves_at_each_level(self):
        for level in range(1, 9):
            court = court_of(level)
            own, other = true_row(level), false_row(level, 2 ** level)
            self.claimed(court, own, other)
            for edge, rival in zip(own.way_to(2 ** level)[:-1], other.way_to(2 ** level)[:-1]):
                letter = own.halve(0, edge)
                self.refuses(court, "halves", put(letter, 10, letter[10] + (0,)), put(letter, 8, letter[7]))
                self.takes(court, 2, letter, other.halve(0, rival))
                self.assertEqual(court.halves(0, edge), own.half_edges(edge))

    def test_everybody_may_halve(self):
        self.takes(self.court, 3, FALSE.halve(0, WHOLE))
        self.takes(self.court, 3, TRUE.halve(0, TRUE.claimed()))
        self.assertEqual(self.court.coins(), (90, 90, 100, 7))


class Provings(Taking, unittest.TestCase):
    def setUp(self):
        self.court = court_of(3)
        self.claimed(self.court, TRUE, FALSE)

    def go_down(self):
        self.halved(self.court, 6, TRUE, FALSE)

    def test_the_effect(self):
        self.go_down()
        edge = TRUE.edge(0, 5)
        edges = self.court.edges(0)
        self.assertIs(self.court.is_proven(0, edge), False)
        self.takes(self.court, 2, TRUE.prove(0, edge))
        self.assertIs(self.court.is_proven(0, edge), True)
        self.assertIs(self.court.is_proven(0, STEP), False)
        self.assertEqual(self.court.edges(0), edges)
        self.assertIsNone(self.court.timer(0, edge))

    def test_edges_that_do_not_stand(self):
        letter = FALSE.prove(0, STEP)
        self.refuses(self.court, "edge", letter, TRUE.prove(0, TRUE.edge(0, 5)))
        self.go_down()
        for place in range(2, 6):
            self.refuses(self.court, "edge", put(letter, place, letter[place] + 1))
        self.refuses(self.court, "edge", put(put(letter, 2, 0), 6, None))

    def test_edges_without_a_rival(self):
        self.go_down()
        first = TRUE.edge(0, 4)
        # Ahead of the step.
        self.refuses(self.court, "rival", TRUE.prove(0, first), put(TRUE.prove(0, first), 6, None))

    def test_proven(self):
        self.go_down()
        letter = TRUE.prove(0, TRUE.edge(0, 5))
        self.takes(self.court, 2, letter)
        # Ahead of the step.
        self.refuses(self.court, "proven", letter, put(letter, 6, None), put(letter, 6, TRUE.openings[0]))

    def test_steps(self):
        self.go_down()
        letter = TRUE.prove(0, TRUE.edge(0, 5))
        registers, root, parts = letter[6]
        wrong = NO_INTEGERS + tuple(TRUE.openings[:5] + TRUE.openings[6:]) + (
            (registers, root), (registers, root, parts[:1]), (registers, root, parts + parts), (registers, root + 1, parts),
            (put(registers, 1, 0), root, parts), [registers, root, parts], (registers, root, parts[::-1]), {1: registers})
        self.refuses(self.court, "step", *[put(letter, 6, opening) for opening in wrong])
        # The right opening, from the same start, but not to this root.
        self.assertEqual(STEP[3], letter[4])
        self.refuses(self.court, "step", FALSE.prove(0, STEP))
        self.takes(self.court, 2, letter)

    def test_steps_of_two_lies(self):
        court = court_of(3)
        rows = (false_row(3, 2), false_row(3, 2, 1000))
        self.claimed(court, *rows)
        self.halved(court, 2, *rows)
        for own in rows:
            self.refuses(court, "step", own.prove(0, own.edge(0, 1)))

    def test_a_right_step_of_a_false_run(self):
        court = court_of(3)
        once, twice = false_row(3, 2), twice_false_row(3, 2, 7)
        self.claimed(court, once, twice, TRUE)
        self.halved(court, 7, once, twice)
        edge = once.edge(0, 6)
        self.assertNotEqual(edge[3], TRUE.row[5])
        self.refuses(court, "step", twice.prove(0, twice.edge(0, 6)))
        self.takes(court, 0, once.prove(0, edge))
        self.assertIsNone(court.timer(0, edge))
        self.assertEqual(court.timer(0, once.claimed()), 0)

    def test_level_0(self):
        court = court_of(0)
        rows = (true_row(0), false_row(0, 1))
        self.claimed(court, *rows)
        self.refuses(court, "step", rows[1].prove(0, rows[1].claimed()))
        self.takes(court, 0, rows[0].prove(0, rows[0].claimed()))
        self.assertEqual(court.tick(), [0])
        self.assertEqual(court.answer(0), rows[0].answer())


class Logs(Taking, unittest.TestCase):
    """Point 806: all that came in, in order, with the times of the calls."""

    def test_all_values(self):
        court = court_of()
        letters = [None, TRUE.claim(0), ask(3), True, TRUE.claim(0), TRUE.claim(0), (), FALSE.claim(0), -1]
        expected = []
        for place, letter in enumerate(letters):
            time = court.time()
            word = court.receive(place % 4, letter)
            expected.append((time, place % 4, letter, word))
            if place % 2 == 0:
                court.tick()
        self.assertEqual(court.log(), expected)
        self.assertEqual([row[0] for row in expected], [0, 1, 1, 2, 2, 3, 3, 4, 4])
        self.assertEqual([row[3] for row in expected], [
            "letter", "question", "done", "letter", "done", "stands", "letter", "coins", "letter"])
        for row in court.log():
            self.assertIs(type(row), tuple)

    def test_lists_that_are_handed_out(self):
        court = court_of(3)
        self.claimed(court, TRUE, FALSE)
        before = told_by(court)
        for handed in (court.log(), court.claims(0), court.edges(0)):
            self.assertIs(type(handed), list)
            handed.clear()
            handed.append("else")
        self.assertEqual(told_by(court), before)

    def test_what_was_handed_out_stays_as_it_was(self):
        court = court_of(3)
        self.claimed(court, TRUE)
        handed = told_by(court)
        copy = told_by(court)
        self.claimed(court, FALSE, OTHER)
        self.halved(court, 6, TRUE, FALSE)
        ticks(court, 60)
        self.assertEqual(handed, copy)
        self.assertNotEqual(told_by(court), copy)

    def test_lists_that_came_in(self):
        court = court_of()
        value = ["ask", [1], (), 3]
        letter = ("ask", [1, 2], (), 3)
        court.receive(0, value)
        court.receive(0, letter)
        expected = [(0, 0, ["ask", [1], (), 3], "letter"), (0, 0, ("ask", [1, 2], (), 3), "letter")]
        value[1].append(5)
        value.append(6)
        letter[1].clear()
        self.assertEqual(court.log(), expected)
        handed = court.log()
        handed[0][2].clear()
        handed[1][2][1].append(7)
        self.assertEqual(court.log(), expected)

    def test_arguments_are_not_changed(self):
        value = ["ask", [1], {}, 3]
        court_of().receive(0, value)
        self.assertEqual(value, ["ask", [1], {}, 3])

    def test_values_that_hold_themselves(self):
        circle = []
        circle.append(circle)
        court = court_of()
        self.assertEqual(court.receive(0, circle), "letter")
        self.assertEqual(court.receive(0, ("prove", circle)), "letter")
        self.assertEqual([row[3] for row in court.log()], ["letter", "letter"])


if __name__ == "__main__":
    unittest.main()
