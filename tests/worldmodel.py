"""A world that the tests keep on their own, from the words of points 1001 to 1005.

Its court and its players are those of the program, which have tests of their own.
"""

from onestepcourt.court import Court
from onestepcourt.digests import Book, Digests
from onestepcourt.players import Honest, Liar


class WorldModel:
    def __init__(self, bits, bond, patience, late, players):
        self.court = Court(Digests(bits, Book()), tuple(coins for way, number, coins in players), bond, patience)
        self.late = late
        self.ways = [way for way, number, coins in players]
        self.players = [
            Honest(place, Digests(bits, None)) if way == "honest" else Liar(place, Digests(bits, None), way, number)
            for place, (way, number, coins) in enumerate(players)]
        self.row = []

    def do(self, event):
        getattr(self, event[0])(*event[1:])

    def ask(self, player, image, inputs, level):
        self.court.receive(player, ("ask", image, inputs, level))

    def deed(self, player):
        due = self.court.time() + self.late + 1 if self.ways[player] == "honest" else None
        self.row += [(player, letter, due) for letter in self.players[player].letters(self.court)]

    def tick(self):
        now = self.court.time() + 1
        place = 0
        found = []
        while place < len(self.row):
            if self.row[place][2] == now:
                found.append(self.row.pop(place))
            else:
                place += 1
        for player, letter, due in found:
            self.court.receive(player, letter)
        self.court.tick()
        for player, way in enumerate(self.ways):
            if way == "honest":
                self.deed(player)

    def deliver(self, place):
        if self.row:
            player, letter, due = self.row.pop(place % len(self.row))
            self.court.receive(player, letter)

    def double(self, place):
        if self.row:
            player, letter, due = self.row[place % len(self.row)]
            self.row.append((player, letter, None))

    def lose(self, place):
        if self.row and self.row[place % len(self.row)][2] is None:
            del self.row[place % len(self.row)]
