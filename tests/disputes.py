"""Courts and questions for the tests, with true and false rows."""

import reckoning
from courtmodel import told_by
from rows import COUNTS, memory, row
from onestepcourt.court import Court
from onestepcourt.digests import Digests

IMAGE = COUNTS[0]
COINS = (100, 100, 100, 7)
BOND = 10
PATIENCE = 50


def ask(level, inputs=(), image=IMAGE):
    return ("ask", image, inputs, level)


def true_row(level, inputs=(), image=IMAGE, bits=61):
    return row(bits, image, inputs, level)


def false_row(level, step, word=999, bits=61):
    """Differs from the true row from this step on."""
    return row(bits, IMAGE, (), level, ("word", step, 200, word))


def twice_false_row(level, step, later, bits=61):
    """Differs from the true row from a step on, and from the false row of this step from a later one on."""
    return row(bits, IMAGE, (), level, ("word", step, 200, 999), ("word", later, 201, 5))


def court_of(level=None, patience=PATIENCE, coins=COINS, bits=61, book=None):
    """A court with one question, if a level is told."""
    court = Court(Digests(bits, book), coins, BOND, patience)
    if level is not None:
        assert court.receive(0, ask(level)) == "done"
    return court


def ticks(court, many):
    return [court.tick() for _ in range(many)]


def without_log(court):
    told = told_by(court)
    del told["log"]
    return told


def start_of(bits, image, inputs):
    root = reckoning.root(bits, reckoning.leaves(bits, memory(image, inputs)))
    return reckoning.state(bits, (0, 0, 0, 0, 7, 0, root))


def crafted_claim(bits, number, below, memory_root=77, registers=(0, 0, 0, 1, 7, 0), told=()):
    """A claim that shows its answer, with this path, of a run that there is not. Its last digest is that of the state."""
    last = root = reckoning.state(bits, registers + (memory_root,))
    for item in below:
        root = reckoning.fold(bits, item, root)
    return ("claim", number, root, last, tuple(below), registers, memory_root, told)


def another_pair(bits, pair):
    """Another pair with the same fold."""
    wanted = reckoning.fold(bits, *pair)
    modulus = reckoning.MODULI[bits]
    return next((x, y) for x in range(modulus) for y in range(min(modulus, 200))
                if reckoning.fold(bits, x, y) == wanted and x != pair[0] and y != pair[1])


def put(values, place, value):
    return values[:place] + (value,) + values[place + 1:]


class Taking:
    """For test cases: receives letters, and looks at what they change."""

    def takes(self, court, player, *letters):
        for letter in letters:
            before = without_log(court)
            self.assertEqual(court.receive(player, letter), "done", letter)
            self.assertNotEqual(without_log(court), before, letter)
            self.assertEqual(court.log()[-1], (court.time(), player, letter, "done"))

    def refuses(self, court, word, *letters, player=1):
        for letter in letters:
            before = without_log(court)
            self.assertEqual(court.receive(player, letter), word, letter)
            self.assertEqual(without_log(court), before, letter)
            self.assertEqual(court.log()[-1], (court.time(), player, letter, word))

    def claimed(self, court, *rows, number=0):
        """The rows claim, each one by the player with its place."""
        for player, own in enumerate(rows):
            self.takes(court, player, own.claim(number))

    def halved(self, court, step, *rows, number=0, down_to=0):
        """Halves the edges of rows on the way to a step, level by level, as far as they are not halved."""
        for edges in zip(*[own.way_to(step) for own in rows]):
            for own, edge in zip(rows, edges):
                if edge[0] > down_to and court.halves(number, edge) is None:
                    self.takes(court, 0, own.halve(number, edge))
