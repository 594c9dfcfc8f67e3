import random
import unittest

from courtmodel import told_by
from disputes import IMAGE, ask, false_row, true_row
from playermodel import HonestModel, LiarModel
from worldmodel import WorldModel
from onestepcourt.limits import MOST_LATE
from onestepcourt.players import WAYS
from onestepcourt.worlds import World

HONEST = ("honest", 0, 100)
WORD = ("word", 4, 100)
ASK = ("ask", 0, IMAGE, (), 3)
TRUE = true_row(3)
PLACES = (0, 1, 2, 3, 5, 99999, 10 ** 30)


def world_of(*players, late=2, bits=61, patience=50):
    return World(bits, 10, patience, late, players)


def do(world, *events):
    for event in events:
        assert world.do(event) is None


class AtFirst(unittest.TestCase):
    """Point 1001."""

    def test_the_court(self):
        world = World(31, 7, 9, 3, (HONEST, ("lazy", 5, 0), ("flood", 6, 44)))
        court = world.court()
        self.assertEqual((court.coins(), court.time(), court.count(), court.log(), court.held()),
                         ((100, 0, 44), 0, 0, [], 0))
        self.assertEqual(world.letters(), ())
        self.assertIs(world.court(), court)

    def test_the_bond_and_the_patience(self):
        world = World(61, 7, 3, 0, (HONEST,))
        do(world, ASK, ("tick",), ("deliver", 0))
        self.assertEqual(world.court().coins(), (93,))
        do(world, ("tick",), ("tick",))
        self.assertIsNone(world.court().accepted(0))
        do(world, ("tick",))
        self.assertEqual(world.court().accepted(0), TRUE.root(3, 0))

    def test_the_bits(self):
        for bits in (7, 13, 31, 61):
            world = world_of(HONEST, bits=bits)
            do(world, ASK)
            self.assertEqual(world.court().question(0)[0], true_row(3, bits=bits).start)

    def test_the_book_is_that_of_the_court(self):
        world = world_of(HONEST, WORD)
        book = world.book()
        self.assertEqual((book.count(), book.has_collision()), (0, False))
        do(world, ASK)
        count = book.count()
        self.assertGreater(count, 8)
        self.assertIs(world.book(), book)
        # Players reckon without a book.
        do(world, ("deed", 0), ("deed", 1), ("tick",), ("tick",))
        self.assertEqual(book.count(), count)
        do(world, ("deliver", 0))
        self.assertGreater(book.count(), count)

    def test_the_ways(self):
        for way in WAYS + ("honest",):
            for number in (0, 3, 99999):
                world = world_of(("copy", 1, 50), (way, number, 50))
                do(world, ASK, ("ask", 1, IMAGE, (1,), 2), ("deed", 1))
                model = HonestModel(61) if way == "honest" else LiarModel(61, way, number)
                self.assertEqual([letter for player, letter, due in world.letters()], model.letters(world.court()))

    def test_arguments_are_not_changed(self):
        players = (HONEST, WORD)
        world = World(61, 10, 50, 2, players)
        do(world, ASK, ("deed", 0), ("tick",))
        self.assertEqual(players, (("honest", 0, 100), ("word", 4, 100)))


class Asking(unittest.TestCase):
    def test_the_court_receives_the_letter(self):
        world = world_of(HONEST, WORD)
        do(world, ASK, ("ask", 1, (5,), (1, 2), 8), ("ask", 1, (5,), ("answer", 0), 8), ("ask", 0, (5,), (), 9))
        self.assertEqual(world.court().log(), [
            (0, 0, ask(3), "done"), (0, 1, ("ask", (5,), (1, 2), 8), "done"),
            (0, 1, ("ask", (5,), ("answer", 0), 8), "open"), (0, 0, ("ask", (5,), (), 9), "letter")])
        self.assertEqual(world.letters(), ())


class Deeds(unittest.TestCase):
    def test_letters_of_honest_players_have_a_due(self):
        for late in range(MOST_LATE + 1):
            world = world_of(WORD, HONEST, late=late)
            do(world, ASK, ("deed", 1))
            self.assertEqual(world.letters(), ((1, TRUE.claim(0), late + 1),))
            world = world_of(WORD, HONEST, late=late)
            do(world, ("tick",), ("tick",), ASK, ("deed", 1))
            self.assertEqual(world.letters(), ((1, TRUE.claim(0), late + 3),))

    def test_letters_of_others_have_none(self):
        world = world_of(HONEST, WORD, ("flood", 3, 100))
        do(world, ASK, ("deed", 1))
        own = LiarModel(61, "word", 4).letters(world.court())
        self.assertEqual(world.letters(), tuple((1, letter, None) for letter in own))
        do(world, ("deed", 2))
        flood = LiarModel(61, "flood", 3).letters(world.court())
        self.assertEqual(world.letters(), tuple([(1, letter, None) for letter in own]
                                                + [(2, letter, None) for letter in flood]))
        self.assertEqual(len(flood), 4)

    def test_deeds_without_letters(self):
        world = world_of(HONEST, WORD)
        do(world, ("deed", 0), ("deed", 1))
        self.assertEqual(world.letters(), ())

    def test_letters_are_put_behind_all_others(self):
        world = world_of(HONEST, ("copy", 0, 100))
        do(world, ASK, ("deed", 1), ("deed", 0), ("deed", 1))
        claim = TRUE.claim(0)
        self.assertEqual(world.letters(), ((1, claim, None), (0, claim, 3), (1, claim, None)))

    def test_a_deed_takes_no_time_and_changes_no_court(self):
        world = world_of(HONEST, WORD)
        do(world, ASK)
        before = told_by(world.court())
        do(world, ("deed", 0), ("deed", 1))
        self.assertEqual(told_by(world.court()), before)

    def test_the_letters_are_a_tuple(self):
        world = world_of(HONEST)
        do(world, ASK, ("deed", 0))
        letters = world.letters()
        self.assertIs(type(letters), tuple)
        do(world, ("deliver", 0))
        self.assertEqual(letters, ((0, TRUE.claim(0), 3),))
        self.assertEqual(world.letters(), ())


class Carrying(unittest.TestCase):
    """deliver, double and lose."""

    def setUp(self):
        self.world = world_of(HONEST, ("flood", 3, 100))
        do(self.world, ASK, ("deed", 1), ("deed", 0))
        self.row = self.world.letters()

    def test_without_letters(self):
        for name in ("deliver", "double", "lose"):
            for place in PLACES:
                world = world_of(HONEST, WORD)
                do(world, ASK)
                before = told_by(world.court())
                do(world, (name, place))
                self.assertEqual(world.letters(), ())
                self.assertEqual(told_by(world.court()), before)

    def test_deliver(self):
        self.assertEqual(len(self.row), 5)
        for place in PLACES:
            self.setUp()
            do(self.world, ("deliver", place))
            at = place % 5
            self.assertEqual(self.world.letters(), self.row[:at] + self.row[at + 1:])
            self.assertEqual(self.world.court().log()[1:], [(0, self.row[at][0], self.row[at][1], "done")])

    def test_deliver_all(self):
        do(self.world, *[("deliver", 4 - k) for k in range(5)])
        self.assertEqual(self.world.letters(), ())
        self.assertEqual([row[1:3] for row in self.world.court().log()[1:]], [row[:2] for row in reversed(self.row)])
        do(self.world, ("deliver", 0))
        self.assertEqual(len(self.world.court().log()), 6)

    def test_double(self):
        for place in PLACES:
            self.setUp()
            do(self.world, ("double", place))
            player, letter, due = self.row[place % 5]
            self.assertEqual(self.world.letters(), self.row + ((player, letter, None),))
            self.assertEqual(len(self.world.court().log()), 1)

    def test_double_of_a_letter_with_a_due(self):
        self.assertEqual(self.row[4][2], 3)
        do(self.world, ("double", 4))
        self.assertEqual(self.world.letters()[4:], ((0, TRUE.claim(0), 3), (0, TRUE.claim(0), None)))
        # The second one is not received by itself, and may be lost.
        do(self.world, ("tick",), ("tick",), ("tick",))
        self.assertIn((0, TRUE.claim(0), None), self.world.letters())
        place = self.world.letters().index((0, TRUE.claim(0), None))
        do(self.world, ("lose", place))
        self.assertNotIn((0, TRUE.claim(0), None), self.world.letters())

    def test_lose(self):
        for place in PLACES:
            self.setUp()
            do(self.world, ("lose", place))
            at = place % 5
            expected = self.row if at == 4 else self.row[:at] + self.row[at + 1:]
            self.assertEqual(self.world.letters(), expected)
            self.assertEqual(len(self.world.court().log()), 1)

    def test_lose_of_a_letter_with_a_due(self):
        world = world_of(HONEST)
        do(world, ASK, ("deed", 0), ("lose", 0), ("lose", 7))
        self.assertEqual(world.letters(), ((0, TRUE.claim(0), 3),))


class Ticks(unittest.TestCase):
    """Points 1004 and 1005."""

    def test_the_court_ends_the_tick(self):
        world = world_of(WORD)
        do(world, *[("tick",)] * 3)
        self.assertEqual(world.court().time(), 3)

    def test_letters_come_in_the_tick_in_which_they_are_due(self):
        for late in range(MOST_LATE + 1):
            world = world_of(WORD, HONEST, late=late)
            do(world, ASK, ("tick",))
            self.assertEqual(world.letters()[:1], ((1, TRUE.claim(0), late + 2),))
            for _ in range(late):
                do(world, ("tick",))
                self.assertEqual(world.court().claims(0), [])
            do(world, ("tick",))
            # It comes ahead of the end of the tick, so its time is that of the tick before, and its edge counts one.
            row = world.court().log()[1]
            self.assertEqual(row, (late + 1, 1, TRUE.claim(0), "done"))
            self.assertEqual(world.court().timer(0, TRUE.claimed()), 1)
            self.assertEqual(world.court().time(), late + 2)

    def test_honest_players_send_behind_the_tick(self):
        world = world_of(HONEST, WORD, HONEST, late=1)
        do(world, ASK, ("tick",))
        claim = TRUE.claim(0)
        self.assertEqual(world.letters(), ((0, claim, 3), (2, claim, 3)))
        do(world, ("tick",))
        self.assertEqual(world.letters(), ((0, claim, 3), (2, claim, 3), (0, claim, 4), (2, claim, 4)))
        do(world, ("tick",))
        # Both claims came, and behind the tick nobody sends one again.
        self.assertEqual([row[1:] for row in world.court().log()[1:]], [(0, claim, "done"), (2, claim, "stands")])
        self.assertEqual(world.letters(), ((0, claim, 4), (2, claim, 4)))

    def test_honest_players_send_what_is_asked_for_behind_the_tick(self):
        world = world_of(HONEST, ("word", 4, 100), late=0)
        do(world, ASK, ("tick",), ("deed", 1), ("deliver", 1))
        self.assertEqual(len(world.court().claims(0)), 1)
        do(world, ("tick",))
        # The claim came in this tick, and gave the liar's claim a rival.
        self.assertEqual(world.letters(), ((0, TRUE.halve(0, TRUE.claimed()), 3),))

    def test_others_send_nothing_by_themselves(self):
        world = world_of(*[(way, 5, 100) for way in WAYS])
        do(world, ASK, *[("tick",)] * 5)
        self.assertEqual(world.letters(), ())

    def test_in_their_order(self):
        world = world_of(HONEST, HONEST, WORD, late=0)
        do(world, ASK, ("ask", 0, IMAGE, (), 2), ("deed", 1), ("deed", 2), ("deed", 0))
        row = world.letters()
        self.assertEqual([due for player, letter, due in row], [1, 1, None, None, 1, 1])
        do(world, ("tick",))
        self.assertEqual([entry[1:3] for entry in world.court().log()[2:]], [entry[:2] for entry in row[:2] + row[4:]])
        self.assertEqual(world.letters()[:2], row[2:4])

    def test_letters_of_others_before_and_behind(self):
        world = world_of(HONEST, ("copy", 0, 100), late=1)
        do(world, ASK, ("deed", 0), ("deed", 1), ("deliver", 1), ("tick",), ("tick",))
        self.assertEqual([row[1] for row in world.court().log()[1:]], [1, 0])
        self.assertEqual(world.court().claims(0)[0][1], 1)

    def test_a_due_of_a_later_tick_waits(self):
        world = world_of(HONEST, late=3)
        do(world, ASK, ("deed", 0), ("tick",), ("tick",), ("deed", 0))
        self.assertEqual([due for player, letter, due in world.letters()], [4, 5, 6, 6])
        do(world, ("tick",))
        self.assertEqual([due for player, letter, due in world.letters()], [4, 5, 6, 6, 7])
        do(world, ("tick",))
        self.assertEqual([due for player, letter, due in world.letters()], [5, 6, 6, 7])

    def test_a_delivered_letter_does_not_come_again(self):
        world = world_of(HONEST, late=2)
        do(world, ASK, ("deed", 0), ("deliver", 0), *[("tick",)] * 6)
        self.assertEqual(len(world.court().log()), 2)


class Drawn(unittest.TestCase):
    """Drawn events, against a world that the tests keep on their own."""

    def events(self, drawn, players, many):
        for _ in range(many):
            kind = drawn.choice(("tick", "tick", "deed", "deed", "deliver", "deliver", "deliver", "double", "lose",
                                 "ask"))
            if kind == "tick":
                yield (kind,)
            elif kind == "deed":
                yield (kind, drawn.randrange(players))
            elif kind == "ask":
                if drawn.random() < 0.15:
                    inputs = drawn.choice(((), (1, 2), ("answer", drawn.randrange(3))))
                    yield (kind, drawn.randrange(players), IMAGE, inputs, drawn.choice((0, 1, 2, 3)))
            else:
                yield (kind, drawn.choice((0, 1, 2, drawn.randrange(50), drawn.randrange(100000))))

    def test_drawn_events(self):
        drawn = random.Random(1003)
        seen = {"done": 0, "accepted": 0}
        for _ in range(40):
            ways = drawn.choices(("honest",) * 3 + WAYS, k=drawn.randint(1, 6))
            players = tuple((way, drawn.randrange(100000), drawn.choice((0, 30, 500))) for way in ways)
            settings = (drawn.choice((31, 61)), drawn.choice((1, 10)), drawn.choice((3, 12, 30)),
                        drawn.randint(0, MOST_LATE), players)
            world, model = World(*settings), WorldModel(*settings)
            for event in [("ask", 0, IMAGE, (), 3)] + list(self.events(drawn, len(players), 150)):
                do(world, event)
                model.do(event)
                self.assertEqual(world.letters(), tuple(model.row))
            self.assertEqual(told_by(world.court()), told_by(model.court))
            seen["done"] += sum(row[3] == "done" for row in world.court().log())
            seen["accepted"] += sum(world.court().accepted(number) is not None
                                    for number in range(world.court().count()))
        self.assertGreater(seen["done"], 300)
        self.assertGreater(seen["accepted"], 30)

    def test_the_same_events_give_the_same_world(self):
        players = (HONEST, ("random", 3, 100), ("flood", 8, 100))
        events = [ASK] + list(self.events(random.Random(3), 3, 120))
        worlds = [world_of(*players), world_of(*players)]
        for world in worlds:
            do(world, *events)
        self.assertEqual(told_by(worlds[0].court()), told_by(worlds[1].court()))
        self.assertEqual(worlds[0].letters(), worlds[1].letters())

    def test_a_false_answer_without_an_honest_player(self):
        world = world_of(("word", 4, 100), patience=2)
        do(world, ASK, ("deed", 0), ("deliver", 0), ("tick",), ("tick",))
        self.assertNotEqual(world.court().accepted(0), TRUE.root(3, 0))
        self.assertEqual(false_row(3, 6).k, 3)


if __name__ == "__main__":
    unittest.main()
