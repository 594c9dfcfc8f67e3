"""Worlds: a court, players, and letters on their way."""

from onestepcourt.court import Court
from onestepcourt.digests import Book, Digests
from onestepcourt.players import Honest, Liar


class World:
    """A world that is told events, one after the other."""

    def __init__(self, bits, bond, patience, late, players):
        self._book = Book()
        digests = Digests(bits, self._book)
        self._court = Court(digests, tuple([coins for _, _, coins in players]), bond, patience)
        self._late = late
        self._players = []
        self._honest = []
        for player, (way, number, _) in enumerate(players):
            if way == "honest":
                self._players.append(Honest(player, digests.without_book()))
                self._honest.append(player)
            else:
                self._players.append(Liar(player, digests.without_book(), way, number))
        # The letters on their way.
        self._row = []

    def court(self):
        """Returns the court."""
        return self._court

    def book(self):
        """Returns the book of the court's digests."""
        return self._book

    def letters(self):
        """Returns the tuple of the letters on their way, in order."""
        return tuple(self._row)

    def do(self, event):
        """Lets an event happen."""
        kind = event[0]
        if kind == "ask":
            self._court.receive(event[1], ("ask",) + event[2:])
        elif kind == "tick":
            self._tick()
        elif kind == "deed":
            self._send(event[1])
        elif len(self._row) > 0:
            self._handle(kind, event[1] % len(self._row))

    def _tick(self):
        ends = self._court.time() + 1
        due_now = [letter for letter in self._row if letter[2] == ends]
        self._row = [letter for letter in self._row if letter[2] != ends]
        for player, words, _ in due_now:
            self._court.receive(player, words)
        self._court.tick()
        for player in self._honest:
            self._send(player)

    def _send(self, player):
        """Asks a player for its letters, and puts them behind all others."""
        due = None
        if player in self._honest:
            due = self._court.time() + self._late + 1
        for words in self._players[player].letters(self._court):
            self._row.append((player, words, due))

    def _handle(self, kind, place):
        """Delivers, doubles or loses the letter at a place."""
        player, words, due = self._row[place]
        if kind == "deliver":
            del self._row[place]
            self._court.receive(player, words)
        elif kind == "double":
            self._row.append((player, words, None))
        elif due is None:
            del self._row[place]
