import random
import unittest

import reckoning
from model import code, drawn_state
from reckoning import ALL_BITS, ListBook
from rows import COUNTS, HALTS_AT_ONCE, HALTS_LATE, TELLS, Row, memory, row
from onestepcourt.digests import Digests
from onestepcourt.histories import History
from onestepcourt.limits import MOST_LEVEL, MOST_TOLD
from onestepcourt.machine import Machine
from onestepcourt.openings import opened

PROGRAMS = (HALTS_AT_ONCE, HALTS_LATE, COUNTS, TELLS)


def history_of(bits, image, inputs, k, turn=None):
    return History(Digests(bits, None), memory(image, inputs), k, turn)


def ranges(k):
    return [(level, index) for level in range(k + 1) for index in range(2 ** (k - level))]


class Comparing(unittest.TestCase):
    """What all tests of a history against the rows of the tests have in common."""

    def compare(self, history, own):
        k = own.k
        for steps in range(2 ** k + 1):
            self.assertEqual(history.digest(steps), own.states[steps][3], steps)
        for level, index in ranges(k):
            self.assertEqual(history.root(level, index), own.root(level, index), (level, index))
            if level > 0:
                self.assertEqual(history.halves(level, index), own.halves(level, index), (level, index))
        for steps in range(2 ** k):
            self.assertEqual(history.opening(steps), own.openings[steps], steps)
        self.assertEqual(history.end(), own.end())


class Runs(Comparing):
    """Point 700, and the methods of the interface."""

    def test_each_k_and_each_kind_of_run(self):
        for k in range(MOST_LEVEL + 1):
            for image, halts in PROGRAMS:
                with self.subTest(k=k, image=image):
                    own = row(61, image, (3, 4), k)
                    halted = [state[0][3] != 0 for state in own.states]
                    self.assertEqual(halted, [halts is not None and steps >= halts for steps in range(2 ** k + 1)])
                    self.compare(history_of(61, image, (3, 4), k), own)

    def test_the_kinds_of_runs_come_early_late_and_never(self):
        self.assertEqual([halts for _, halts in PROGRAMS], [1, 114, None, 10])
        self.assertEqual(len(row(61, HALTS_LATE[0], (3, 4), 8).end()[4]), MOST_TOLD)

    def test_all_bits(self):
        for bits in ALL_BITS:
            for k in (0, 1, 4, 5):
                self.compare(history_of(bits, TELLS[0], (65535,), k), row(bits, TELLS[0], (65535,), k))

    def test_drawn_memories(self):
        drawn = random.Random(700)
        for turn in range(20):
            _, words = drawn_state(drawn, 61)
            k = drawn.randint(0, 6)
            with self.subTest(turn=turn):
                self.compare(History(Digests(61, None), words, k, None), Row(61, words, k))

    def test_the_range_of_level_0_is_the_digest_behind_the_next_step(self):
        history = history_of(61, TELLS[0], (), 4)
        for index in range(16):
            self.assertEqual(history.root(0, index), history.digest(index + 1))

    def test_the_whole_history_is_the_range_of_level_k(self):
        own = row(61, TELLS[0], (), 4)
        self.assertEqual(history_of(61, TELLS[0], (), 4).root(4, 0), reckoning.root(61, own.row))

    def test_the_kinds_of_what_is_returned(self):
        history = history_of(61, TELLS[0], (1,), 5)
        halves, end = history.halves(3, 2), history.end()
        self.assertIs(type(halves), tuple)
        self.assertEqual([type(part) for part in halves], [int, int, int, tuple])
        self.assertEqual(len(halves[3]), 2)
        self.assertIs(type(end), tuple)
        self.assertEqual([type(part) for part in end], [int, tuple, tuple, int, tuple])
        self.assertEqual(len(end[1]), 5)

    def test_a_machine_that_is_stepped(self):
        digests = Digests(31, None)
        words = memory(TELLS[0], (8, 9))
        machine = Machine(digests, (0, 0, 0, 0, 7, 0), words)
        history = History(digests, words, 4, None)
        for steps in range(17):
            self.assertEqual(history.digest(steps), machine.digest())
            if steps < 16:
                self.assertEqual(history.opening(steps), opened(machine))
            machine.step()

    def test_more_steps_than_the_history_has(self):
        for k in (0, 1, 3):
            history = history_of(61, COUNTS[0], (), k)
            for steps in (2 ** k + 1, 2 ** k + 7, 40):
                self.assertEqual(history.digest(steps), row(61, COUNTS[0], (), 6).states[steps][3])

    def test_a_greater_k(self):
        own = row(61, COUNTS[0], (), 9)
        history = history_of(61, COUNTS[0], (), 9)
        self.assertEqual(history.root(9, 0), own.root(9, 0))
        self.assertEqual(history.halves(9, 0), own.halves(9, 0))
        self.assertEqual(history.end(), own.end())


class Keeping(Comparing):
    """Point 701."""

    def test_any_order_and_more_than_once(self):
        drawn = random.Random(701)
        for k, turn in ((0, None), (3, None), (6, None), (7, ("word", 50, 30, 9)), (8, ("told", 100, (1, 2)))):
            own = row(61, COUNTS[0], (), k, turn)
            history = history_of(61, COUNTS[0], (), k, turn)
            asked = [("digest", steps) for steps in range(2 ** k + 1)]
            asked += [("opening", steps) for steps in range(2 ** k)] + [("end",), ("end",)]
            asked += [("root",) + place for place in ranges(k)]
            asked += [("halves",) + place for place in ranges(k) if place[0] > 0]
            drawn.shuffle(asked)
            for name, *places in asked[:200] + asked[:50]:
                expected = {
                    "digest": lambda steps: own.states[steps][3], "opening": lambda steps: own.openings[steps],
                    "root": own.root, "halves": own.halves, "end": own.end,
                }[name](*places)
                self.assertEqual(getattr(history, name)(*places), expected, (name, places))

    def test_not_all_digests_are_kept(self):
        for k in (4, 5, 6, 7, 8):
            for turn in (None, ("word", 3, 30, 7)):
                own = row(61, COUNTS[0], (), k, turn)
                history = history_of(61, COUNTS[0], (), k, turn)
                history.end()
                history.digest(5)
                history.root(0, 2)
                kept, states = reached(history)
                # At the most one digest of each block may stand there.
                self.assertLessEqual(len(kept & set(own.row)), 2 ** (k - k // 2) + 1)
                self.assertEqual(states, 2 ** (k - k // 2) + 1)

    def test_what_lies_within_a_block_is_run_anew(self):
        book = ListBook()
        history = History(Digests(61, book), memory(COUNTS[0], ()), 8, None)
        before = len(book.told)
        history.root(4, 3)
        history.root(8, 0)
        self.assertEqual(len(book.told), before)
        history.root(0, 100)
        states = book.kinds("state")[2 ** 8:]
        self.assertGreater(len(states), 0)
        self.assertLessEqual(len(states), 2 * 2 ** 4)

    def test_arguments_are_not_changed(self):
        words = memory(COUNTS[0], (1, 2))
        copy = tuple(list(words))
        turn = ("word", 3, 30, 7)
        self.compare(History(Digests(61, None), words, 3, turn), Row(61, words, 3, turn))
        self.assertEqual(words, copy)
        self.assertEqual(turn, ("word", 3, 30, 7))

    def test_histories_do_not_disturb_each_other(self):
        digests = Digests(61, None)
        words = memory(COUNTS[0], ())
        true, false = History(digests, words, 4, None), History(digests, words, 4, ("word", 2, 30, 1))
        for own, history in ((row(61, COUNTS[0], (), 4), true), (row(61, COUNTS[0], (), 4, ("word", 2, 30, 1)), false)):
            self.compare(history, own)
        self.compare(true, row(61, COUNTS[0], (), 4))


def reached(value):
    """All integers to which an object leads, and the number of the memories of 256 words."""
    numbers, states, seen, waiting = set(), 0, set(), [value]
    while waiting:
        found = waiting.pop()
        if isinstance(found, int):
            numbers.add(found)
        if id(found) in seen or isinstance(found, (int, str)):
            continue
        seen.add(id(found))
        if isinstance(found, (tuple, list)):
            states += len(found) == 256
            waiting.extend([] if len(found) == 256 else found)
        elif isinstance(found, dict):
            waiting.extend(list(found) + list(found.values()))
        elif hasattr(found, "__dict__"):
            waiting.extend(vars(found).values())
    return numbers, states


class Turns(Comparing):
    """Point 702."""

    def test_words_at_the_first_a_middle_and_the_last_step(self):
        for k in (0, 1, 3, 4, 5, 8):
            for step in sorted({1, 2 ** k // 2 + 1, 2 ** k}):
                for place, word in ((30, 7), (0, 65535), (255, 1)):
                    turn = ("word", step, place, word)
                    with self.subTest(k=k, turn=turn):
                        own = row(61, COUNTS[0], (), k, turn)
                        self.compare(history_of(61, COUNTS[0], (), k, turn), own)
                        self.assertNotEqual(own.root(k, 0), row(61, COUNTS[0], (), k).root(k, 0))

    def test_told_words_at_the_first_a_middle_and_the_last_step(self):
        for k in (0, 1, 4, 5):
            for step in sorted({1, 2 ** k // 2 + 1, 2 ** k}):
                for words in ((), (0,), (1, 65535, 2), tuple(range(MOST_TOLD))):
                    turn = ("told", step, words)
                    with self.subTest(k=k, turn=turn):
                        own = row(61, TELLS[0], (4,), k, turn)
                        self.compare(history_of(61, TELLS[0], (4,), k, turn), own)

    def test_what_a_turn_of_told_words_leaves(self):
        for step in (1, 3, 8):
            history = history_of(61, TELLS[0], (4,), 3, ("told", step, (7, 8)))
            before = row(61, TELLS[0], (4,), 3).states[step]
            last, path, registers, root, told = history.end()
            self.assertEqual(registers, before[0][:3] + (1, reckoning.out_of(61, (7, 8)), 2))
            self.assertEqual(root, before[1])
            self.assertEqual(told, (7, 8))
            self.assertEqual(last, reckoning.state(61, registers + (root,)))

    def test_words_that_were_told_before_do_not_count(self):
        self.assertEqual(row(61, TELLS[0], (4,), 3).end()[4], (5, 4, 9))
        self.assertEqual(history_of(61, TELLS[0], (4,), 3, ("told", 5, ())).end()[4], ())

    def test_words_told_in_many_blocks(self):
        image = (code("lit", 3), code("tell"), code("jump", 0))
        for turn in (None, ("word", 9, 0, code("lit", 4)), ("word", 8, 0, code("lit", 4))):
            own = row(61, image, (), 5, turn)
            self.assertEqual(history_of(61, image, (), 5, turn).end(), own.end())
            self.assertGreater(len(own.end()[4]), 9)

    def test_a_turn_of_a_machine_that_has_halted(self):
        for turn in (("word", 9, 100, 5), ("told", 9, (1,)), ("told", 2, ()), ("word", 16, 0, 0)):
            own = row(61, HALTS_AT_ONCE[0], (), 4, turn)
            self.compare(history_of(61, HALTS_AT_ONCE[0], (), 4, turn), own)

    def test_a_turn_that_changes_nothing(self):
        true = row(61, COUNTS[0], (), 4)
        self.compare(history_of(61, COUNTS[0], (), 4, ("word", 6, 31, 1)), true)
        halted = row(61, TELLS[0], (4,), 4)
        self.compare(history_of(61, TELLS[0], (4,), 4, ("told", 12, halted.end()[4])), halted)

    def test_the_opening_ahead_of_the_turn_is_not_turned(self):
        for k, step in ((3, 1), (3, 4), (3, 5), (4, 16), (5, 17)):
            for turn in (("word", step, 30, 999), ("told", step, (1, 2))):
                history = history_of(61, COUNTS[0], (), k, turn)
                true = row(61, COUNTS[0], (), k)
                self.assertEqual(history.opening(step - 1), true.openings[step - 1])
                self.assertEqual(history.digest(step - 1), true.states[step - 1][3])
                self.assertNotEqual(history.digest(step), true.states[step][3])

    def test_drawn_turns(self):
        drawn = random.Random(702)
        for _ in range(30):
            words = drawn_state(drawn, 61)[1]
            k = drawn.randint(0, 5)
            step = drawn.randint(1, 2 ** k)
            told = tuple(drawn.randint(0, 65535) for _ in range(drawn.randint(0, MOST_TOLD)))
            turn = drawn.choice((("told", step, told), ("word", step, drawn.randint(0, 255), drawn.randint(0, 65535))))
            with self.subTest(turn=turn):
                self.compare(History(Digests(31, None), words, k, turn), Row(31, words, k, turn))

    def test_turns_beyond_the_last_step_turn_nothing_there(self):
        for turn in (("word", 9, 30, 5), ("told", 9, (5,))):
            self.compare(history_of(61, COUNTS[0], (), 3, turn), row(61, COUNTS[0], (), 3))


if __name__ == "__main__":
    unittest.main()
