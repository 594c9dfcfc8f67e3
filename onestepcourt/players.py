"""Players: those who follow the told way, and liars."""

from onestepcourt.draws import Draws
from onestepcourt.histories import History
from onestepcourt.letters import FIRST_PREFIX
from onestepcourt.limits import MOST_WORD
from onestepcourt.machine import first_words
from onestepcourt.showing import halves_of
from onestepcourt.trees import PLACES

WAYS = ("word", "told", "flood", "copy", "lazy", "random")


def letters_for(court, digests, number, history):
    """Returns the list of the letters for a history in a question."""
    if court.accepted(number) is not None:
        return []
    claim = claim_for(court, number, history)
    if len(claim) > 0:
        return claim
    start, level, _, _ = court.question(number)
    edge = (level, 0, FIRST_PREFIX, start, history.root(level, 0))
    return letters_at(court, digests, number, history, edge)


def claim_for(court, number, history):
    """Returns the list of the claim of a history, without a letter if it is claimed."""
    root = history.root(court.question(number)[1], 0)
    if root in [claim[0] for claim in court.claims(number)]:
        return []
    return [("claim", number, root) + history.end()]


def letters_at(court, digests, number, history, edge):
    """Returns the list of the letters for an edge of a history that stands."""
    if not court.has_rival(number, edge):
        return []
    level, index = edge[:2]
    if level == 0:
        if court.is_proven(number, edge):
            return []
        return [("prove", number) + edge[1:] + (history.opening(index),)]
    told = history.halves(level, index)
    halves = court.halves(number, edge)
    if halves is None:
        return [("halve", number) + edge + told]
    left, right, last, _ = told
    if halves != halves_of(digests, edge, left, right, last):
        return []
    letters = []
    for half in halves:
        letters.extend(letters_at(court, digests, number, history, half))
    return letters


def undecided(court):
    """Returns the list of the numbers of the questions without an accepted answer, in ascending order."""
    return [number for number in range(court.count()) if court.accepted(number) is None]


class Truths:
    """The true histories of questions. Each one is run when it is first asked for."""

    def __init__(self, digests):
        self._digests = digests
        self._histories = {}

    def history(self, question):
        """Returns the true history of a question as the court tells it."""
        if question not in self._histories:
            _, level, image, inputs = question
            self._histories[question] = History(self._digests, first_words(image, inputs), level, None)
        return self._histories[question]


class Honest:
    """A player who follows the told way."""

    def __init__(self, player, digests):
        self._player = player
        self._digests = digests
        self._truths = Truths(digests)

    def player(self):
        """Returns the number of the player."""
        return self._player

    def letters(self, court):
        """Returns the list of the letters that the player would send now."""
        letters = []
        for number in undecided(court):
            history = self._truths.history(court.question(number))
            letters.extend(letters_for(court, self._digests, number, history))
        return letters


class Liar:
    """A player whose letters are not honest, or not all of those that are."""

    def __init__(self, player, digests, way, number):
        self._player = player
        self._digests = digests
        self._way = way
        self._draws = Draws(number)
        self._truths = Truths(digests)
        self._lies = {}

    def player(self):
        """Returns the number of the player."""
        return self._player

    def letters(self, court):
        """Returns the list of the letters that the player would send now."""
        letters = []
        for number in undecided(court):
            letters.extend(self._letters_in(court, number))
        return letters

    def _letters_in(self, court, number):
        if self._way == "copy":
            return claim_for(court, number, self._truth(court, number))
        if self._way == "random":
            return self._letters_at_random(court, number)
        if self._way == "lazy" and self._draws.drawn(3) != 0:
            return []
        letters = []
        for place in range(3 if self._way == "flood" else 1):
            letters.extend(letters_for(court, self._digests, number, self._lie(court, number, place)))
        if self._way == "flood":
            letters.extend(letters_for(court, self._digests, number, self._truth(court, number)))
        return letters

    def _letters_at_random(self, court, number):
        edges = court.edges(number)
        if len(edges) == 0:
            return []
        edge = edges[self._draws.drawn(len(edges))]
        level = edge[0]
        steps = 1 << court.question(number)[1]
        history = self._truth(court, number)
        if level == 0:
            return [("prove", number) + edge[1:] + (history.opening(self._draws.drawn(steps)),)]
        left, right, last, path = history.halves(level, self._draws.drawn(steps >> level))
        if self._draws.drawn(2) == 0:
            left, right = right, left
        return [("halve", number) + edge + (left, right, last, path)]

    def _truth(self, court, number):
        return self._truths.history(court.question(number))

    def _lie(self, court, number, place):
        """Returns a false history of a question, by its place among them."""
        _, level, image, inputs = court.question(number)
        if (number, place) not in self._lies:
            history = History(self._digests, first_words(image, inputs), level, self._turn(1 << level))
            self._lies[(number, place)] = history
        return self._lies[(number, place)]

    def _turn(self, steps):
        """Draws the turn of a false history with so many steps."""
        step = 1 + self._draws.drawn(steps)
        if self._way == "told":
            many = self._draws.drawn(4)
            return ("told", step, tuple([self._draws.drawn(MOST_WORD + 1) for _ in range(many)]))
        place = self._draws.drawn(PLACES)
        return ("word", step, place, self._draws.drawn(MOST_WORD + 1))
