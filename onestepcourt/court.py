"""The court: it keeps a ledger of questions and takes letters about them, without running a program."""

from onestepcourt.dockets import Docket

# So deep are lists copied in what the log takes and hands out: a value that is a list, and lists among its items.
# There is an end to it, as a value may be of any depth, and even hold itself.
DEEPEST = 2


class Court:
    """A court with its time and its log."""

    def __init__(self, digests, coins, bond, patience):
        self._docket = Docket(digests, coins, bond, patience)
        self._time = 0
        self._log = []

    def receive(self, player, letter):
        """Takes a value from a player; returns "done", or the first reason why it has no effect."""
        word = self._docket.take(player, letter, self._time)
        self._log.append((self._time, player, copied(letter, DEEPEST), word))
        return word

    def tick(self):
        """Ends a tick; returns the list of the questions that were decided, in ascending order."""
        self._time = self._time + 1
        return self._docket.decide(self._time - 1, self._time)

    def time(self):
        """Returns the number of ticks that have ended."""
        return self._time

    def coins(self):
        """Returns the tuple of the coins of the players."""
        return self._docket.coins()

    def held(self):
        """Returns the number of coins that are bonds of questions without an accepted answer."""
        return self._docket.held()

    def log(self):
        """Returns a list of the tuples of the time, the player, the letter and the word of all that was received."""
        return [(time, player, copied(letter, DEEPEST), word) for time, player, letter, word in self._log]

    def count(self):
        """Returns the number of questions."""
        return self._docket.count()

    def question(self, number):
        """Returns the start, the level, the image and the inputs of a question."""
        question = self._docket.question(number)
        return (question.start, question.level, question.image, question.inputs)

    def claims(self, number):
        """Returns the list of the roots, players and answers of the claims of a question, in ascending order."""
        claims = self._docket.question(number).claims
        return [(root,) + claims[root] for root in sorted(claims)]

    def edges(self, number):
        """Returns the list of all edges of a question that stand, in ascending order."""
        return self._docket.question(number).edges.row()

    def has_rival(self, number, edge):
        """Tells whether an edge has a rival."""
        return self._docket.question(number).edges.has_rival(edge)

    def is_proven(self, number, edge):
        """Tells whether an edge is proven."""
        return self._docket.question(number).edges.is_proven(edge)

    def halves(self, number, edge):
        """Returns the pair of the halves of an edge, or None."""
        return self._docket.question(number).edges.halves(edge)

    def timer(self, number, edge):
        """Returns the timer of an edge, or None if it is without end."""
        return self._docket.question(number).timer(edge, self._time)

    def accepted(self, number):
        """Returns the root of the accepted claim of a question, or None."""
        return self._docket.question(number).accepted

    def answer(self, number):
        """Returns the accepted answer of a question, or None."""
        return self._docket.question(number).answer()


def copied(value, depth):
    """Returns a value with copies of the lists in it, so that nobody changes the log by changing a list."""
    if depth == 0 or not isinstance(value, (list, tuple)):
        return value
    items = [copied(item, depth - 1) for item in value]
    return items if isinstance(value, list) else tuple(items)
