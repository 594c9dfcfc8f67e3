"""Players that the tests reckon on their own, from the words of part 9 and with the rows of the tests."""

from rows import memory, row


def letters_for(court, number, own):
    """Point 901."""
    if court.accepted(number) is not None:
        return []
    if own.claimed() not in court.edges(number):
        return [own.claim(number)]
    letters, waiting = [], [own.claimed()]
    while waiting:
        edge = waiting.pop(0)
        if not court.has_rival(number, edge):
            continue
        if edge[0] == 0:
            letters += [] if court.is_proven(number, edge) else [own.prove(number, edge)]
        elif court.halves(number, edge) is None:
            letters.append(own.halve(number, edge))
        elif court.halves(number, edge) == own.half_edges(edge):
            waiting = list(own.half_edges(edge)) + waiting
    return letters


class Draws:
    """Point 903."""

    def __init__(self, number):
        self.number = number

    def drawn(self, many):
        self.number = (self.number * 16807 + 29) % 2147483647
        return self.number // 7 % many


class LiarModel:
    """Points 903 and 904."""

    def __init__(self, bits, way, number):
        self.bits = bits
        self.way = way
        self.draws = Draws(number)
        self.turns = {}

    def row(self, court, number, *turns):
        start, level, image, inputs = court.question(number)
        return row(self.bits, image, inputs, level, *turns)

    def lie(self, court, number, j):
        if (number, j) not in self.turns:
            drawn = self.draws.drawn
            step = 1 + drawn(2 ** court.question(number)[1])
            if self.way == "told":
                many = drawn(4)
                words = []
                while len(words) < many:
                    words.append(drawn(65536))
                self.turns[number, j] = ("told", step, tuple(words))
            else:
                place = drawn(256)
                word = drawn(65536)
                self.turns[number, j] = ("word", step, place, word)
        return self.row(court, number, self.turns[number, j])

    def letters(self, court):
        letters = []
        for number in range(court.count()):
            if court.accepted(number) is None:
                letters += getattr(self, self.way)(court, number)
        return letters

    def word(self, court, number):
        return letters_for(court, number, self.lie(court, number, 0))

    def told(self, court, number):
        return letters_for(court, number, self.lie(court, number, 0))

    def lazy(self, court, number):
        return letters_for(court, number, self.lie(court, number, 0)) if self.draws.drawn(3) == 0 else []

    def flood(self, court, number):
        letters = []
        for j in range(3):
            letters += letters_for(court, number, self.lie(court, number, j))
        return letters + letters_for(court, number, self.row(court, number))

    def copy(self, court, number):
        own = self.row(court, number)
        return [] if own.claimed() in court.edges(number) else [own.claim(number)]

    def random(self, court, number):
        edges = court.edges(number)
        if not edges:
            return []
        own = self.row(court, number)
        level, index, prefix, start, root = edges[self.draws.drawn(len(edges))]
        if level == 0:
            opening = own.openings[self.draws.drawn(2 ** own.k)]
            return [("prove", number, index, prefix, start, root, opening)]
        left, right, last, path = own.halves(level, self.draws.drawn(2 ** own.k // 2 ** level))
        if self.draws.drawn(2) == 0:
            left, right = right, left
        return [("halve", number, level, index, prefix, start, root, left, right, last, path)]


class HonestModel:
    """Point 902."""

    def __init__(self, bits):
        self.bits = bits

    def letters(self, court):
        letters = []
        for number in range(court.count()):
            start, level, image, inputs = court.question(number)
            letters += letters_for(court, number, row(self.bits, image, inputs, level))
        return letters


TELLING = ("time", "coins", "held", "log", "count", "question", "claims", "edges", "has_rival", "is_proven", "halves",
           "timer", "accepted", "answer")


class Telling:
    """A court that can only be asked."""

    def __init__(self, court):
        self.__court = court

    def __getattr__(self, name):
        if name not in TELLING:
            raise AssertionError(name)
        return getattr(self.__court, name)
