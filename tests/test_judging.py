import random
import unittest

import judgemodel
import reckoning
from courtmodel import told_by
from disputes import (
    BOND, COINS, IMAGE, Taking, ask, court_of, crafted_claim, false_row, put, ticks, true_row,
    twice_false_row,
)
from judgemodel import collide, faults_of, texts_of
from reckoning import ALL_BITS
from rows import COUNTS, HALTS_AT_ONCE, HALTS_LATE, TELLS, row
from onestepcourt.digests import Book, Digests
from onestepcourt.judging import has_collision, ledger_faults, ledger_of, true_run, truth_faults
from onestepcourt.players import WAYS
from onestepcourt.worlds import World

TRUE = true_row(3)
LATE = false_row(3, 6)
EARLY = false_row(3, 2)
DIGESTS = Digests(61, None)


def ledger(court, patience, coins=COINS):
    return ledger_of(court, coins, BOND, patience)


def played(drawn, bits, level, image=IMAGE, ways=None, events=60, patience=12, late=1):
    """The ledger of a world of drawn players and events."""
    ways = ways or drawn.choices(("honest",) + WAYS, k=3)
    players = tuple((way, drawn.randrange(1000), 200) for way in ways)
    world = World(bits, BOND, patience, late, players)
    world.do(("ask", 0, image, (), level))
    for _ in range(events):
        kind = drawn.choice(("tick", "deed", "deed", "deliver", "deliver", "deliver", "double", "ask"))
        if kind == "ask" and drawn.random() < 0.3:
            world.do(("ask", 1, image, drawn.choice(((), ("answer", 0), (3,))), level))
        elif kind == "tick":
            world.do(("tick",))
        elif kind == "deed":
            world.do(("deed", drawn.randrange(3)))
        elif kind in ("deliver", "double"):
            world.do((kind, drawn.randrange(100)))
    for _ in range(drawn.choice((0, 3, 40))):
        world.do(("tick",))
    return ledger_of(world.court(), (200, 200, 200), BOND, patience)


class Ledgers(Taking, unittest.TestCase):
    """Point 1101."""

    def test_a_court_at_first(self):
        self.assertEqual(ledger(court_of(), 50), (COINS, BOND, 50, 0, (), (), COINS))

    def test_a_court_that_has_decided(self):
        court = court_of(3, patience=2)
        self.takes(court, 0, LATE.claim(0))
        ticks(court, 2)
        self.takes(court, 1, ask(3), TRUE.claim(1))
        self.refuses(court, "letter", None)
        found = ledger(court, 2)
        self.assertEqual(found, (
            COINS, BOND, 2, 2,
            ((0, 0, ask(3), "done"), (0, 0, LATE.claim(0), "done"), (2, 1, ask(3), "done"),
             (2, 1, TRUE.claim(1), "done"), (2, 1, None, "letter")),
            (LATE.root(3, 0), None), (100, 90, 100, 7)))
        for part in (found, found[0], found[4], found[4][0], found[5], found[6]):
            self.assertIs(type(part), tuple)

    def test_a_ledger_stays_as_it_was(self):
        court = court_of(3)
        before = ledger(court, 50)
        self.takes(court, 0, TRUE.claim(0))
        ticks(court, 3)
        self.assertEqual(before, ((COINS, BOND, 50, 0, ((0, 0, ask(3), "done"),), (None,), COINS)))

    def test_the_court_is_not_changed(self):
        court = court_of(3)
        self.takes(court, 0, TRUE.claim(0))
        before = told_by(court)
        found = ledger(court, 50)
        self.judge(found)
        self.assertEqual(told_by(court), before)

    def judge(self, found):
        return ledger_faults(DIGESTS, found), truth_faults(DIGESTS, found), has_collision(61, found)

    def test_nothing_is_reckoned_into_the_book_of_the_court(self):
        book = Book()
        digests = Digests(61, book)
        court = court_of(3, book=book)
        self.takes(court, 0, LATE.claim(0))
        ticks(court, 60)
        count, found = book.count(), ledger(court, 50)
        self.assertEqual(ledger_faults(digests, found), [])
        self.assertEqual(truth_faults(digests, found), [("false", 0, TRUE.answer())] if LATE.answer() != TRUE.answer() else [])
        self.assertEqual(book.count(), count)


class RightLedgers(unittest.TestCase):
    """Points 1102, 1103 and 1107: a court that did as it should has no faults, whoever played."""

    def test_drawn_worlds(self):
        drawn = random.Random(1102)
        decided = 0
        for _ in range(60):
            bits = drawn.choice(ALL_BITS)
            found = played(drawn, bits, drawn.randint(0, 3))
            self.assertEqual(ledger_faults(Digests(bits, None), found), [])
            self.assertEqual(faults_of(bits, found), [])
            decided += sum(root is not None for root in found[5])
        self.assertGreater(decided, 30)

    def test_no_letters(self):
        for time in (0, 5, 10 ** 15):
            self.assertEqual(ledger_faults(DIGESTS, (COINS, 10, 3, time, (), (), COINS)), [])

    def test_no_coins(self):
        court = court_of(3, coins=(0, 0))
        court.receive(0, TRUE.claim(0))
        self.assertEqual(court.log()[-1][3], "coins")
        self.assertEqual(ledger_faults(DIGESTS, ledger(court, 50, (0, 0))), [])

    def test_long_times_between_letters(self):
        claim = (5, 0, TRUE.claim(0), "done")
        log = ((5, 1, ask(3), "done"), claim)
        far = 10 ** 15
        for patience in (1, 50, far - 6, far - 5):
            found = (COINS, 10, patience, far, log, (TRUE.root(3, 0),), COINS)
            self.assertEqual(ledger_faults(DIGESTS, found), [], patience)
        found = (COINS, 10, far - 4, far, log, (None,), (90, 100, 100, 7))
        self.assertEqual(ledger_faults(DIGESTS, found), [])
        # A letter one tick ahead of the decision, or behind it.
        for patience, word in ((far - 6, "closed"), (far - 5, "closed"), (far - 4, "done")):
            late = log + ((far, 2, LATE.claim(0), word),)
            root, coins = ((TRUE.root(3, 0),), COINS) if word == "closed" else ((None,), (90, 100, 90, 7))
            self.assertEqual(ledger_faults(DIGESTS, (COINS, 10, patience, far, late, root, coins)), [], patience)

    def test_the_first_tick_that_decides(self):
        # Two claims come to the patience in different ticks, with no letter in between: the first one is accepted,
        # also where the other one has the lesser root.
        roots = {word: false_row(2, 2, word).root(2, 0) for word in range(900, 1000)}
        least, greatest = min(roots, key=roots.get), max(roots, key=roots.get)
        self.assertLess(roots[least], true_row(2).root(2, 0))
        self.assertGreater(roots[greatest], true_row(2).root(2, 0))
        for word in (least, greatest):
            for later in (1, 2, 3):
                court, own, once = self.two_claims(word, later)
                self.assertEqual([court.timer(0, one.claimed()) for one in (own, once)], [later, 0])
                at = court.time()
                for time in (at, at + 5 - later - 1, at + 5 - later, at + 5, at + 6, at + 7, at + 8, at + 100, at + 10 ** 9):
                    root = own.root(2, 0) if time >= at + 5 - later else None
                    coins = (120, 90, 90, 7) if root is not None else (90, 90, 90, 7)
                    found = (COINS, BOND, 5, time, tuple(court.log()), (root,), coins)
                    self.assertEqual(ledger_faults(DIGESTS, found), [], (word, later, time))
                ticks(court, 20)
                self.assertEqual(ledger_faults(DIGESTS, ledger(court, 5)), [])
                self.assertEqual(court.accepted(0), own.root(2, 0))

    def two_claims(self, word, later):
        """A court without letters to come, where the true claim has a timer of so many ticks, and a false one of none.

        Both count on: the timer of the false one comes to 5, the patience, and stays there.
        """
        own, once = true_row(2), false_row(2, 2, word)
        twice = row(61, IMAGE, (), 2, ("word", 2, 200, word), ("word", 4, 201, 5))
        court = court_of(2, 5)
        for player, one in enumerate((own, once, twice)):
            court.receive(player, one.claim(0))
        for one in (once, twice):
            court.receive(0, one.halve(0, one.claimed()))
        ticks(court, 5)
        for letter in (own.halve(0, own.claimed()), own.halve(0, own.edge(1, 0))):
            court.receive(0, letter)
        ticks(court, later)
        court.receive(1, once.halve(0, once.edge(1, 1)))
        return court, own, once

    def test_claims_that_grow_without_letters(self):
        drawn = random.Random(5)
        for _ in range(20):
            court = court_of(2, patience=30)
            rows = [true_row(2), false_row(2, 1), false_row(2, 3), false_row(2, 4), twice_false_row(2, 1, 3)]
            for _ in range(25):
                own = drawn.choice(rows)
                level = drawn.randint(0, 2)
                edge = own.edge(level, drawn.randrange(2 ** (2 - level)))
                letter = drawn.choice((own.claim(0), own.halve(0, edge) if level else own.prove(0, edge)))
                court.receive(drawn.randrange(3), letter)
                ticks(court, drawn.choice((0, 0, 0, 1, 2)))
            ticks(court, 500)
            self.assertEqual(ledger_faults(DIGESTS, ledger(court, 30)), [])


class WrongLedgers(Taking, unittest.TestCase):
    """Point 1103."""

    def setUp(self):
        court = court_of(3, patience=6)
        self.claimed(court, TRUE, LATE)
        self.takes(court, 2, ask(3), ask(2), true_row(2).claim(2))
        self.halved(court, 6, TRUE, LATE)
        self.refuses(court, "stands", TRUE.claim(0))
        ticks(court, 2)
        self.takes(court, 0, TRUE.prove(0, TRUE.edge(0, 5)))
        ticks(court, 4)
        self.refuses(court, "closed", EARLY.claim(0))
        self.right = ledger(court, 6)
        self.court = court

    def check(self, found, *faults):
        for bits_digests in (DIGESTS, Digests(61, Book())):
            self.assertEqual(ledger_faults(bits_digests, found), list(faults))
        self.assertEqual(faults_of(61, found), list(faults))

    def word_at(self, found, place, word):
        return put(found, 4, put(found[4], place, put(found[4][place], 3, word)))

    def test_the_right_one(self):
        self.check(self.right)
        self.assertEqual(self.right[5], (TRUE.root(3, 0), None, true_row(2).root(2, 0)))

    def test_a_word(self):
        for place, row_of_log in enumerate(self.right[4]):
            for word in ("done", "letter", "closed", "stands", "", "else", None, 0):
                if word != row_of_log[3]:
                    self.check(self.word_at(self.right, place, word), ("word", place))

    def test_several_words(self):
        found = self.right
        for place in (1, 4, 7):
            found = self.word_at(found, place, "letter")
        self.check(found, ("word", 1), ("word", 4), ("word", 7))

    def test_all_words(self):
        found = self.right
        for place in range(len(found[4])):
            found = self.word_at(found, place, "question")
        self.check(found, *[("word", place) for place in range(len(found[4]))])

    def test_an_accepted_root(self):
        true, none, other = self.right[5]
        for root in (LATE.root(3, 0), None, 0, 7):
            self.check(put(self.right, 5, (root, none, other)), ("accepted", 0))
        for root in (TRUE.root(3, 0), 0):
            self.check(put(self.right, 5, (true, root, other)), ("accepted", 1))
        self.check(put(self.right, 5, (None, 5, None)), ("accepted", 0), ("accepted", 1), ("accepted", 2))

    def test_the_number_of_roots(self):
        true, none, other = self.right[5]
        self.check(put(self.right, 5, (true, none, other, None)), ("questions",))
        self.check(put(self.right, 5, (true, none, other, 5, 6)), ("questions",))
        self.check(put(self.right, 5, (true, none)), ("accepted", 2), ("questions",))
        self.check(put(self.right, 5, ()), ("accepted", 0), ("accepted", 2), ("questions",))
        # None stands for a root that is missing.
        court = court_of(3)
        found = ledger(court, 50)
        self.check(put(found, 5, ()), ("questions",))

    def test_the_coins(self):
        self.assertEqual(self.right[6], (110, 90, 100, 7))
        for coins in (COINS, (110, 90, 100, 6), (110, 90, 100), (), (90, 110, 100, 7), (110, 90, 100, 7, 0)):
            self.check(put(self.right, 6, coins), ("coins",))

    def test_several_faults_in_order(self):
        found = self.word_at(self.word_at(self.right, 6, "edge"), 2, "coins")
        found = put(put(found, 5, (None, 9)), 6, (1, 2, 3, 4))
        self.check(found, ("word", 2), ("word", 6), ("accepted", 0), ("accepted", 1), ("accepted", 2), ("questions",),
                   ("coins",))

    def test_letters_take_effect_whatever_word_stands_there(self):
        # Each of these letters should have an effect: what follows is judged as if it had.
        for place in range(5):
            self.assertEqual(self.right[4][place][3], "done")
            self.check(self.word_at(self.right, place, "letter"), ("word", place))

    def test_letters_take_no_effect_whatever_word_stands_there(self):
        log = ((0, 0, ask(3), "done"), (0, 1, put(LATE.claim(0), 3, 0), "done"), (0, 0, TRUE.claim(0), "done"))
        found = (COINS, 10, 5, 5, log, (TRUE.root(3, 0),), COINS)
        self.check(found, ("word", 1))

    def test_a_court_that_forgets_a_letter(self):
        log = self.right[4]
        place = [row[2] for row in log].index(TRUE.claim(0))
        found = put(self.right, 4, log[:place] + log[place + 1:])
        faults = ledger_faults(DIGESTS, found)
        self.assertEqual(faults, faults_of(61, found))
        self.assertIn(("accepted", 0), faults)

    def test_drawn_ledgers(self):
        drawn = random.Random(1103)
        kinds = set()
        for _ in range(60):
            found = played(drawn, 61, drawn.randint(0, 2), events=40)
            for _ in range(drawn.choice((1, 1, 2, 4))):
                found = self.changed(drawn, found)
            faults = ledger_faults(DIGESTS, found)
            self.assertEqual(faults, faults_of(61, found))
            kinds |= {fault[0] for fault in faults}
        self.assertEqual(kinds, {"word", "accepted", "questions", "coins"})

    def changed(self, drawn, found):
        kind = drawn.choice(("word", "root", "roots", "coins", "letter", "time"))
        log, roots = found[4], found[5]
        place = drawn.randrange(len(log))
        if kind == "word":
            return self.word_at(found, place, drawn.choice(("done", "edge", "closed", "answer", "rival")))
        if kind == "root" and roots:
            return put(found, 5, put(roots, drawn.randrange(len(roots)), drawn.choice((None, 5))))
        if kind == "roots":
            return put(found, 5, drawn.choice((roots[:-1], roots + (None,), roots + (3,))))
        if kind == "coins":
            return put(found, 6, put(found[6], 0, found[6][0] + 1))
        if kind == "letter":
            return put(found, 4, log[:place] + log[place + 1:])
        return put(found, 3, found[3] + drawn.choice((1, 30)))

    def test_arguments_are_not_changed(self):
        copy = tuple(list(self.right))
        log = tuple(list(self.right[4]))
        ledger_faults(DIGESTS, self.right)
        truth_faults(DIGESTS, self.right)
        has_collision(61, self.right)
        self.assertEqual(self.right, copy)
        self.assertEqual(self.right[4], log)


class Truth(Taking, unittest.TestCase):
    """Points 1104 and 1105."""

    def test_true_runs_at_each_level(self):
        for level in range(9):
            for image, _ in (HALTS_AT_ONCE, HALTS_LATE, COUNTS, TELLS):
                own = row(61, image, (3, 4), level)
                self.assertEqual(true_run(DIGESTS, image, (3, 4), level), (own.root(level, 0), own.answer()))

    def test_marks_of_true_runs(self):
        found = {true_run(DIGESTS, image, (), 7)[1][0] for image in (
            TELLS[0], (0,), (1024 * 16 + 9,), (1024 * 9,), (1024 * 10 + 239,), (1024 * 28, 1024 * 23), COUNTS[0])}
        self.assertEqual(found, {"done", "bad", "divided", "place", "input", "full", "long"})

    def test_true_runs_of_all_bits(self):
        for bits in ALL_BITS:
            own = row(bits, TELLS[0], (4,), 4)
            self.assertEqual(true_run(Digests(bits, None), TELLS[0], (4,), 4), (own.root(4, 0), own.answer()))

    def lie(self, turn, level=4, inputs=(4,)):
        return row(61, TELLS[0], inputs, level, turn)

    def test_a_false_answer(self):
        for turn in (("told", 3, (1, 2)), ("told", 16, ()), ("word", 5, 240, 8)):
            own, lie = row(61, TELLS[0], (4,), 4), self.lie(turn)
            self.assertNotEqual(own.root(4, 0), lie.root(4, 0))
            court = court_of(patience=2)
            self.takes(court, 0, ask(4, (4,), TELLS[0]), lie.claim(0))
            self.assertEqual(truth_faults(DIGESTS, ledger(court, 2)), [])
            ticks(court, 2)
            expected = [("false", 0, own.answer())] if lie.answer() != own.answer() else []
            self.assertEqual(truth_faults(DIGESTS, ledger(court, 2)), expected)
            self.assertEqual(expected == [], turn[0] == "word")

    def test_a_true_answer(self):
        court = court_of(patience=2)
        self.takes(court, 0, ask(4, (4,), TELLS[0]), row(61, TELLS[0], (4,), 4).claim(0))
        ticks(court, 2)
        self.assertEqual(truth_faults(DIGESTS, ledger(court, 2)), [])

    def test_the_right_words_with_another_mark(self):
        own = row(61, COUNTS[0], (), 3)
        lie = row(61, COUNTS[0], (), 3, ("told", 4, ()))
        self.assertEqual((own.answer(), lie.answer()), (("long", ()), ("done", ())))
        court = court_of(3, patience=1)
        self.takes(court, 0, lie.claim(0))
        ticks(court, 1)
        self.assertEqual(truth_faults(DIGESTS, ledger(court, 1)), [("false", 0, ("long", ()))])

    def test_several_questions(self):
        court = court_of(patience=3)
        own, lie = row(61, TELLS[0], (4,), 4), self.lie(("told", 3, (1, 2)))
        for _ in range(5):
            self.takes(court, 0, ask(4, (4,), TELLS[0]))
        for number, one in ((1, lie), (2, own), (3, lie)):
            self.takes(court, 0, one.claim(number))
        ticks(court, 3)
        self.takes(court, 0, lie.claim(4))
        self.assertEqual(truth_faults(DIGESTS, ledger(court, 3)),
                         [("false", 1, own.answer()), ("false", 3, own.answer())])

    def test_a_question_about_a_false_answer(self):
        # Its inputs are the accepted answer, false or not: the true run is that of these inputs.
        court = court_of(patience=1)
        lie = self.lie(("told", 3, (1, 2)))
        self.takes(court, 0, ask(4, (4,), TELLS[0]), lie.claim(0))
        ticks(court, 1)
        self.takes(court, 0, ask(4, ("answer", 0), TELLS[0]), row(61, TELLS[0], (1, 2), 4).claim(1))
        ticks(court, 1)
        self.assertEqual(truth_faults(DIGESTS, ledger(court, 1)), [("false", 0, ("done", (5, 4, 9)))])

    def test_by_the_log_alone(self):
        court = court_of(patience=2)
        lie = self.lie(("told", 3, (1, 2)))
        self.takes(court, 0, ask(4, (4,), TELLS[0]), lie.claim(0))
        ticks(court, 2)
        fault = [("false", 0, ("done", (5, 4, 9)))]
        right = ledger(court, 2)
        for found in (right, put(right, 5, ()), put(right, 5, (None,)), put(right, 5, (5,)), put(right, 5, (5, 6, 7)),
                      put(right, 6, ()), put(right, 4, tuple(put(row, 3, "letter") for row in right[4]))):
            self.assertEqual(truth_faults(DIGESTS, found), fault)
        early = put(right, 3, 1)
        self.assertEqual(truth_faults(DIGESTS, put(early, 5, (lie.root(4, 0),))), [])


class Collisions(Taking, unittest.TestCase):
    """Point 1106."""

    def both(self, bits, found):
        known = collide(bits, texts_of(bits, found))
        self.assertIs(has_collision(bits, found), known)
        return known

    def test_7_bits(self):
        drawn = random.Random(1106)
        seen = []
        for _ in range(60):
            image = tuple(drawn.choice((0, 1, 2, 5, 1024)) for _ in range(drawn.randint(0, 2)))
            seen.append(self.both(7, played(drawn, 7, drawn.randint(0, 2), image, events=20)))
        self.assertGreater(seen.count(True), 10)
        self.assertGreater(seen.count(False), 10)

    def test_13_bits(self):
        drawn = random.Random(13)
        seen = [self.both(13, played(drawn, 13, drawn.randint(3, 5), events=40)) for _ in range(40)]
        self.assertGreater(seen.count(True), 3)
        self.assertGreater(seen.count(False), 3)

    def test_61_bits(self):
        drawn = random.Random(61)
        for _ in range(20):
            self.assertIs(has_collision(61, played(drawn, 61, drawn.randint(0, 3))), False)

    def test_no_letters(self):
        for bits in ALL_BITS:
            self.assertIs(has_collision(bits, (COINS, 10, 5, 9, (), (), COINS)), False)

    def test_an_ask_alone(self):
        seen = set()
        for first in range(60):
            found = (COINS, 10, 5, 9, ((0, 0, ask(0, (), (first,)), "done"),), (None,), COINS)
            seen.add(self.both(7, found))
        self.assertEqual(seen, {True, False})
        # Leaves that are words with the same rest.
        found = (COINS, 10, 5, 9, ((0, 0, ask(0, (), (0, 127)), "done"),), (None,), COINS)
        self.assertIs(has_collision(7, found), True)

    def test_letters_that_are_refused_do_not_count(self):
        # A claim that is refused for its coins, or its answer, has digests that collide; nobody reckons them.
        drawn = random.Random(3)
        kinds = set()
        for _ in range(150):
            image = (drawn.choice((0, 1, 2, 5, 1024)),)
            level = drawn.choice((0, 1))
            own = row(7, image, (), level, ("told", 1, (drawn.randrange(65536),)))
            log = ((0, 0, ask(level, (), image), "done"), (0, 3, own.claim(0), "coins"))
            found = (COINS, 10, 5, 0, log, (None,), COINS)
            self.assertEqual(ledger_faults(Digests(7, None), found), [])
            texts = texts_of(7, found)
            more = texts | judgemodel.claim_texts(7, level, own.claim(0))
            kinds.add((self.both(7, found), collide(7, more)))
        self.assertIn((False, True), kinds)
        self.assertIn((False, False), kinds)

    def test_letters_that_should_have_an_effect_count_whatever_their_word(self):
        drawn = random.Random(4)
        kinds = set()
        for _ in range(150):
            image = (drawn.choice((0, 1, 2, 5, 1024)),)
            own = row(7, image, (), 1, ("told", 1, (drawn.randrange(65536),)))
            log = ((0, 0, ask(1, (), image), "letter"), (0, 0, own.claim(0), "coins"))
            found = (COINS, 10, 5, 0, log, (None,), COINS)
            without = put(found, 4, log[:1])
            kinds.add((self.both(7, without), self.both(7, found)))
        self.assertEqual(kinds, {(False, False), (False, True), (True, True)})

    def test_each_kind_of_letter_counts(self):
        drawn = random.Random(5)
        kinds = {"claim": set(), "halve": set(), "prove": set()}
        for _ in range(150):
            first = ("word", 1, drawn.randrange(1, 256), drawn.randrange(65536))
            second = ("word", 2, drawn.randrange(1, 256), drawn.randrange(65536))
            image = (1024 * 4 + drawn.randrange(2, 256), 1024 * 2 + drawn.randrange(1024))
            rows = [row(13, image, (), 1), row(13, image, (), 1, first), row(13, image, (), 1, first, second)]
            if len({own.root(1, 0) for own in rows}) < 3:
                continue
            court = court_of(bits=13)
            court.receive(0, ask(1, (), image))
            letters = [own.claim(0) for own in rows] + [own.halve(0, own.claimed()) for own in rows]
            # A right step from a state that is not in the true run.
            letters.append(rows[1].prove(0, rows[1].edge(0, 1)))
            for letter in letters:
                before = self.both(13, ledger(court, 50))
                if court.receive(1, letter) == "done":
                    kinds[letter[0]].add((before, self.both(13, ledger(court, 50))))
        for kind, seen in kinds.items():
            self.assertIn((False, True), seen, kind)
            self.assertIn((False, False), seen, kind)

    def crafted(self, image, *letters):
        """The ledger of a court with 13 bits and a question of level 2, whose letters have an effect."""
        court = court_of(bits=13)
        self.takes(court, 0, ask(2, (), image), *letters)
        return ledger(court, 50)

    def image_without(self):
        """An image, and the texts of its question, none of which collide."""
        for first in range(100):
            image = (1024 * 2 + first,)
            texts = texts_of(13, self.crafted(image))
            if not collide(13, texts):
                return image, texts

    def test_each_digest_of_a_claim_counts(self):
        image, texts = self.image_without()
        folds = {judgemodel.digest_of(13, *text) for text in texts if text[0] == "fold"}
        states = {judgemodel.digest_of(13, *text) for text in texts if text[0] == "state"}

        def claims(kind):
            for number in range(20000):
                if kind == "state":
                    yield crafted_claim(13, 0, (1, 2), number), number
                elif kind == "path":
                    yield crafted_claim(13, 0, (number % 8191, 2), 77), number
                elif kind == "upper path":
                    yield crafted_claim(13, 0, (1, number % 8191), 77), number
                else:
                    word = number % 65536
                    out = reckoning.out_of(13, (word,))
                    yield crafted_claim(13, 0, (1, 2), 77, (0, 0, 0, 1, out, 1), (word,)), number

        for kind in ("state", "path", "upper path", "told"):
            seen = set()
            for claim, number in claims(kind):
                first = reckoning.fold(13, claim[4][0], claim[3])
                collides = {
                    "state": claim[3] in states, "path": first in folds, "upper path": claim[2] in folds,
                    "told": number in (8191, 16382) or claim[5][4] in folds,
                }[kind]
                if collides or number < 3:
                    seen.add(self.both(13, self.crafted(image, claim)))
                if len(seen) == 2:
                    break
            self.assertEqual(seen, {False, True}, kind)

    def test_each_digest_of_a_halving_counts(self):
        image, texts = self.image_without()
        start = judgemodel.digest_of(13, "state", (0, 0, 0, 0, 7, 0, reckoning.root(13, reckoning.leaves(13, image))))
        folds = [text for text in texts if text[0] == "fold"]
        seen = {"path": set(), "prefix": set()}
        for number in range(8191):
            pair = (number, 5)
            left = reckoning.fold(13, *pair)
            collides = {
                "path": left in {judgemodel.digest_of(13, *text) for text in folds},
                "prefix": reckoning.fold(13, 5, left) in {judgemodel.digest_of(13, *text) for text in folds},
            }
            for kind in seen:
                if not collides[kind] and number > 2:
                    continue
                claims = [crafted_claim(13, 0, (1, left), 77), crafted_claim(13, 0, (1, 2), 78)]
                right = reckoning.fold(13, 1, claims[0][3])
                halving = ("halve", 0, 2, 0, 5, start, claims[0][2], left, right, 5, (number,))
                before = self.both(13, self.crafted(image, *claims))
                seen[kind].add((before, self.both(13, self.crafted(image, *claims, halving))))
            if all((False, True) in found and (False, False) in found for found in seen.values()):
                break
        for kind, found in seen.items():
            self.assertIn((False, True), found, kind)
            self.assertIn((False, False), found, kind)

    def test_the_true_runs_count(self):
        seen = set()
        for first in range(40):
            image = (1024 * 2 + first, 1024 * 4 + 100 + first, 28 * 1024, 1024 * 2 + 7, 1024 * 4 + 90, 28 * 1024, 1024)
            kinds = []
            for level in (0, 3):
                found = (COINS, 10, 5, 9, ((0, 0, ask(level, (), image), "done"),), (None,), COINS)
                kinds.append(self.both(13, found))
            seen.add(tuple(kinds))
        self.assertIn((False, False), seen)
        self.assertIn((False, True), seen)

    def test_questions_about_answers(self):
        court = court_of(patience=1, bits=31)
        own = row(31, TELLS[0], (4,), 4)
        self.takes(court, 0, ask(4, (4,), TELLS[0]), own.claim(0))
        ticks(court, 1)
        self.takes(court, 0, ask(4, ("answer", 0), TELLS[0]))
        found = ledger(court, 1)
        self.assertIn(("leaf", 9), texts_of(31, found))
        self.assertIs(self.both(31, found), False)


if __name__ == "__main__":
    unittest.main()
