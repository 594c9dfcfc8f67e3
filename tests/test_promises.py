"""Points 5, 814, 815 and 1107: what holds whatever all others do, if one player is honest."""

import random
import unittest

import programs
from courtmodel import told_by
from disputes import IMAGE, false_row, true_row, twice_false_row
from playermodel import letters_for
from rows import row
from onestepcourt.building import build
from onestepcourt.court import Court
from onestepcourt.digests import Digests
from onestepcourt.errors import BadFit
from onestepcourt.judging import has_collision, ledger_faults, ledger_of, true_run, truth_faults
from onestepcourt.meaning import check
from onestepcourt.plain import plain
from onestepcourt.players import WAYS, Honest
from onestepcourt.reading import parse
from onestepcourt.schedules import run
from onestepcourt.worlds import World

BOND = 7
SUM = """
table seen 4
to twice(n)
  give n * 2
end
main
  let k = 0
  let sum = 0
  while k < inputs
    sum = sum + twice(input(k))
    seen[k] = sum
    k = k + 1
    tell sum
  end
  tell 1000 / sum
end
"""
# Runs of this program never end.
ENDLESS = "main\nlet k = 0\nwhile 1\nk = k + 1\ntell k\ntell k * inputs\nend\nend"


class Watched:
    """A court whose questions are known, with all that points 813 to 815 say of it."""

    def __init__(self, case, court, coins, honest, late, patience):
        self.case = case
        self.court = court
        self.coins = coins
        self.honest = honest
        self.late = late
        self.patience = patience
        self.digests = Digests(61, None)
        self.truths = []
        self.asked = []

    def look(self):
        """What holds behind each event."""
        court, case = self.court, self.case
        case.assertEqual(sum(court.coins()) + court.held(), sum(self.coins))
        case.assertGreaterEqual(min(court.coins()), 0)
        for number in range(len(self.truths), court.count()):
            start, level, image, inputs = court.question(number)
            self.truths.append(true_run(self.digests, image, inputs, level))
            self.asked.append(court.time())
        for number, (root, answer) in enumerate(self.truths):
            start, level, image, inputs = court.question(number)
            most = (level + 1) * (self.late + 1)
            for found, player, told in court.claims(number):
                timer = court.timer(number, (level, 0, 5, start, found))
                if found != root:
                    case.assertIsNotNone(timer)
                    case.assertLessEqual(timer, most)
            if court.accepted(number) is not None:
                case.assertEqual((court.accepted(number), court.answer(number)), (root, answer))
            elif court.time() >= self.asked[number] + self.patience + (level + 2) * (self.late + 1) + 1:
                case.fail(f"question {number} of level {level} is not decided at {court.time()}")

    def end(self):
        """What holds when all questions are decided."""
        court, case = self.court, self.case
        case.assertEqual(court.held(), 0)
        for player in self.honest:
            case.assertGreaterEqual(court.coins()[player], self.coins[player])
        log = [row for row in court.log() if row[3] == "done" and row[2][0] != "ask"]
        by_honest = [row for row in log if row[1] in self.honest]
        case.assertLessEqual(len(by_honest), len(log) - len(by_honest) + court.count())
        ledger = ledger_of(court, self.coins, BOND, self.patience)
        case.assertEqual(ledger_faults(self.digests, ledger), [])
        case.assertEqual(truth_faults(self.digests, ledger), [])
        case.assertIs(has_collision(61, ledger), False)
        return len(by_honest), len(log) - len(by_honest)


class Worlds(unittest.TestCase):
    """Worlds with one honest player and liars of each way."""

    def world(self, drawn, ways, late, level, coins=None):
        patience = (level + 1) * (late + 1) + 1 + drawn.choice((0, 0, 1, 20))
        players = [(way, drawn.randrange(100000), drawn.choice((20, 300, 99999))) for way in ways]
        place = drawn.randint(0, len(players))
        players.insert(place, ("honest", 0, BOND * 5))
        world = World(61, BOND, patience, late, tuple(players))
        return world, Watched(self, world.court(), tuple(player[2] for player in players), [place], late, patience)

    def play(self, drawn, world, watched, asks, level, many):
        """Lets drawn things happen until all questions are decided."""
        liars = [player for player in range(len(watched.coins)) if player not in watched.honest]
        asks = list(asks)
        while True:
            event = drawn.choice(("deed", "deed", "deliver", "deliver", "deliver", "deliver", "double", "lose", "tick"))
            if asks and drawn.random() < 0.08:
                world.do(("ask", drawn.choice(liars)) + asks.pop(0))
            elif event == "deed":
                world.do(("deed", drawn.choice(liars)))
            elif event == "tick":
                world.do(("tick",))
            else:
                world.do((event, drawn.choice((0, 99999, drawn.randrange(1000)))))
            watched.look()
            if len(world.letters()) > many:
                world.do(("lose", drawn.randrange(1000)))
            court = world.court()
            if not asks and all(court.accepted(number) is not None for number in range(court.count())):
                return watched.end()

    def test_each_way(self):
        drawn = random.Random(814)
        effects = 0
        for way in WAYS:
            for late in (0, 1, 3):
                level = drawn.choice((2, 4, 5))
                image, pace = build(check(parse(SUM)))
                world, watched = self.world(drawn, (way, way), late, level)
                asks = [(image, (4, 5), level), (image, ("answer", 0), level), (image, (), level - 2)]
                by_honest, by_others = self.play(drawn, world, watched, asks, level, 60)
                effects += by_honest
        self.assertGreater(effects, 80)

    def test_all_ways_at_once(self):
        drawn = random.Random(815)
        for late in (0, 2, 9):
            for level in (0, 3, 8):
                image, pace = build(check(parse(SUM)))
                world, watched = self.world(drawn, drawn.sample(WAYS, 5), late, level)
                self.play(drawn, world, watched, [(image, (4, 5), level), (image, (1,), level)], level, 80)

    def test_an_honest_player_with_no_more_coins_than_it_needs(self):
        drawn = random.Random(7)
        for _ in range(6):
            world, watched = self.world(drawn, ("flood", "told", "random"), 1, 3)
            asks = [(IMAGE, (number,), 3) for number in range(5)]
            self.play(drawn, world, watched, asks, 3, 60)

    def test_several_honest_players(self):
        drawn = random.Random(8)
        for _ in range(4):
            players = (("honest", 0, BOND), ("word", 5, 90), ("honest", 0, BOND), ("flood", drawn.randrange(99), 900))
            world = World(61, BOND, 4 * 3 + 1, 2, players)
            watched = Watched(self, world.court(), (BOND, 90, BOND, 900), [0, 2], 2, 4 * 3 + 1)
            self.play(drawn, world, watched, [(IMAGE, (), 3)], 3, 60)

    def test_answers_are_those_of_the_plain_reading(self):
        drawn = random.Random(5)
        marks = {}
        trees = [check(parse(SUM)), check(parse(ENDLESS))]
        while len(trees) < 24:
            trees.append(check(programs.drawn_program(drawn, 3)))
        for tree in trees:
            try:
                image, pace = build(tree)
            except BadFit:
                continue
            inputs = tuple(drawn.randrange(5) for _ in range(drawn.randint(0, 3)))
            level = drawn.choice((5, 6, 7))
            world, watched = self.world(drawn, ("told", "word"), 0, level)
            self.play(drawn, world, watched, [(image, inputs, level)], level, 30)
            mark, words = world.court().answer(0)
            marks[mark] = marks.get(mark, 0) + 1
            if mark != "long":
                self.assertEqual(plain(tree, inputs, 2 ** level), (words, mark))
            self.assertEqual(plain(tree, inputs, 2 ** level)[0][:len(words)], words)
        self.assertGreater(marks["long"], 1)
        self.assertGreater(marks["done"], 3)

    def test_the_words_that_were_told_up_to_there(self):
        tree = check(parse(ENDLESS))
        image, pace = build(tree)
        for level in range(9):
            world, watched = self.world(random.Random(level), ("told",), 0, level)
            self.play(random.Random(level), world, watched, [(image, (1, 2), level)], level, 30)
            own = row(61, image, (1, 2), level)
            self.assertEqual(world.court().answer(0), own.answer())
        self.assertEqual(own.answer()[1][:4], (1, 2, 2, 4))


class Adversaries(unittest.TestCase):
    """Courts with an honest player whose letters come as late as they may, and others that know all."""

    def test_letters_at_the_worst_times(self):
        drawn = random.Random(11)
        for _ in range(60):
            level, late = drawn.choice((1, 2, 3)), drawn.choice((0, 1, 2, 4))
            self.dispute(drawn, level, late, drawn.choice((0.1, 0.4, 0.9)))

    def dispute(self, drawn, level, late, often):
        patience = (level + 1) * (late + 1) + 1
        coins = (BOND, 10000)
        court = Court(Digests(61, None), coins, BOND, patience)
        watched = Watched(self, court, coins, [0], late, patience)
        honest, row_of_letters = Honest(0, Digests(61, None)), []
        steps = range(1, 2 ** level + 1)
        rows = [true_row(level)] + [false_row(level, drawn.choice(steps), word) for word in (999, 998, 997)]
        rows += [twice_false_row(level, *sorted(drawn.sample(steps, 2))) for _ in range(2)]
        court.receive(1, ("ask", IMAGE, (), level))
        watched.look()
        while court.accepted(0) is None:
            # The others claim, halve and prove in any order, for true and false rows.
            while drawn.random() < often:
                letters = letters_for(court, 0, drawn.choice(rows))
                if letters:
                    court.receive(1, drawn.choice(letters))
                    watched.look()
            for letter in [letter for due, letter in row_of_letters if due == court.time() + 1]:
                court.receive(0, letter)
            court.tick()
            watched.look()
            row_of_letters += [(court.time() + late + 1, letter) for letter in honest.letters(court)]
        watched.end()

    def test_one_halving_ahead_of_each_patience(self):
        # Others go on only when nobody may wait longer: the true claim is accepted in time all the same.
        for late in (0, 1, 3):
            for level in (1, 3):
                patience = (level + 1) * (late + 1) + 1
                court = Court(Digests(61, None), (BOND, 10000), BOND, patience)
                watched = Watched(self, court, (BOND, 10000), [0], late, patience)
                honest, sent = Honest(0, Digests(61, None)), []
                lies = [false_row(level, step) for step in range(1, 2 ** level + 1)]
                court.receive(1, ("ask", IMAGE, (), level))
                watched.look()
                while court.accepted(0) is None:
                    timers = [court.timer(0, (level, 0, 5) + (court.question(0)[0], root))
                              for root, player, answer in court.claims(0)]
                    if None in timers or not timers or max(timers) >= patience - 1 or court.time() % (late + 2) == 0:
                        for lie in lies[:1]:
                            for letter in letters_for(court, 0, lie)[:1]:
                                court.receive(1, letter)
                        lies = lies[1:] + lies[:1]
                    for letter in [letter for due, letter in sent if due == court.time() + 1]:
                        court.receive(0, letter)
                    court.tick()
                    watched.look()
                    sent += [(court.time() + late + 1, letter) for letter in honest.letters(court)]
                watched.end()

    def test_the_last_moment(self):
        # Nobody else plays: the claim stands at the latest with D + 1 ticks, and is accepted with the patience.
        for late in (0, 4, 9):
            for level in (0, 8):
                patience = (level + 1) * (late + 1) + 1
                world = World(61, BOND, patience, late, (("honest", 0, BOND),))
                for _ in range(3):
                    world.do(("tick",))
                world.do(("ask", 0, IMAGE, (), level))
                time = 3
                while world.court().accepted(0) is None:
                    world.do(("tick",))
                    time += 1
                self.assertEqual(time, 3 + late + 1 + patience)
                self.assertLessEqual(time, 3 + patience + (level + 2) * (late + 1) + 1)
                self.assertEqual(world.court().coins(), (BOND,))


class FewBits(unittest.TestCase):
    """Points 4 and 1107: with few bits texts collide, and the judge sees it."""

    def test_either_a_collision_or_the_truth(self):
        drawn = random.Random(1107)
        kinds = set()
        for _ in range(150):
            bits, level = drawn.choice((7, 7, 13)), drawn.choice((0, 1, 2))
            patience = (level + 1) * 2 + 1
            players = (("honest", 0, 100),) + tuple(
                (drawn.choice(WAYS), drawn.randrange(1000), 200) for _ in range(3))
            world = World(bits, BOND, patience, 1, players)
            image = drawn.choice(((), (1024,), (2048, 28 * 1024, 1024)))
            world.do(("ask", 1, image, drawn.choice(((), (3,))), level))
            for _ in range(40):
                world.do(drawn.choice((("tick",), ("deed", 1), ("deed", 2), ("deed", 3), ("deliver", drawn.randrange(99)),
                                       ("deliver", 99999), ("double", drawn.randrange(99)))))
            for _ in range(20):
                world.do(("tick",))
            ledger = ledger_of(world.court(), tuple(player[2] for player in players), BOND, patience)
            digests = Digests(bits, None)
            self.assertEqual(ledger_faults(digests, ledger), [])
            collision, faults = has_collision(bits, ledger), truth_faults(digests, ledger)
            self.assertTrue(collision or not faults)
            kinds.add((collision, bool(faults)))
        self.assertTrue({(True, False), (False, False)} <= kinds)

    def test_without_an_honest_player_the_judge_sees_the_lie(self):
        world = World(61, BOND, 3, 0, (("told", 5, 100),))
        world.do(("ask", 0, IMAGE, (), 4))
        world.do(("deed", 0))
        world.do(("deliver", 0))
        for _ in range(3):
            world.do(("tick",))
        ledger = ledger_of(world.court(), (100,), BOND, 3)
        self.assertEqual(ledger_faults(Digests(61, None), ledger), [])
        self.assertEqual(truth_faults(Digests(61, None), ledger), [("false", 0, ("long", ()))])
        self.assertIs(has_collision(61, ledger), False)


class Schedules(unittest.TestCase):
    """The whole road: from a text to a ledger that the judge has looked through."""

    def test_a_schedule(self):
        lines = ["court 61 5 28 2", "player honest 0 15", "player flood 3 200", "player word 8 200", "player random 1 0",
                 "text"] + SUM.split("\n") + [".", "ask 1 0 8 4,5", "again 3 0 7 0", "tick 3"]
        for turn in range(30):
            lines += ["deed 1", "deed 2", "deed 3", f"deliver {turn * 7}", f"deliver {turn}", f"double {turn * 3}",
                      f"lose {turn * 5}", f"deliver {turn * 11}", "tick 2"]
        lines += ["again 3 0 7 0", "tick 90"]
        world = run("\n".join(lines))
        court = world.court()
        checked = check(parse(SUM))
        self.assertEqual(court.answer(0), ("done", (8, 18, 55)))
        self.assertEqual(plain(checked, (4, 5), 256), ((8, 18, 55), "done"))
        self.assertEqual(court.answer(1)[1], plain(checked, (8, 18, 55), 256)[0])
        self.assertGreaterEqual(court.coins()[0], 15)
        self.assertEqual(sum(court.coins()) + court.held(), 415)
        ledger = ledger_of(court, (15, 200, 200, 0), 5, 28)
        digests = Digests(61, None)
        self.assertEqual((ledger_faults(digests, ledger), truth_faults(digests, ledger)), ([], []))
        self.assertEqual(told_by(run("\n".join(lines)).court()), told_by(court))


if __name__ == "__main__":
    unittest.main()
