"""The docket: what letters do to questions and coins, and when a claim is accepted.

The court and the judge both go by it. It has no clock of its own: it is told the time of each letter, and up to which
tick it is to decide.
"""

from onestepcourt.edges import Edges
from onestepcourt.letters import FIRST_PREFIX, is_letter
from onestepcourt.showing import (
    answer_of, edge_of, halves_of, shows_claim, shows_halves, shows_step, start_of,
)


class Question:
    """A question, with its edges and its claims."""

    def __init__(self, start, level, image, inputs):
        self.start = start
        self.level = level
        self.image = image
        self.inputs = inputs
        self.edges = Edges()
        # The pairs of the owner and the answer of each claim, by its root.
        self.claims = {}
        # The root of the accepted claim, and the number of the tick that accepted it, or None.
        self.accepted = None
        self.decided = None

    def edge(self, root):
        """Returns the edge of a claim with this root."""
        return (self.level, 0, FIRST_PREFIX, self.start, root)

    def answer(self):
        """Returns the accepted answer, or None."""
        return None if self.accepted is None else self.claims[self.accepted][1]

    def timer(self, edge, time):
        """Returns the timer of an edge at a time. Edges of a decided question count no more."""
        return self.edges.timer(edge, time if self.decided is None else self.decided)

    def winner(self, patience, time):
        """Returns the least root of the claims that patience accepts at a time, or None."""
        roots = []
        for root in self.claims:
            timer = self.timer(self.edge(root), time)
            if timer is None or timer >= patience:
                roots.append(root)
        return min(roots) if len(roots) > 0 else None

    def first_tick(self, patience, since, until):
        """Returns the number of the first tick behind since, up to until, that accepts a claim, or None."""
        if since >= until or self.winner(patience, until) is None:
            return None
        # Without letters timers never fall, so the first tick is found by halving.
        low = since + 1
        high = until
        while low < high:
            middle = (low + high) // 2
            if self.winner(patience, middle) is None:
                low = middle + 1
            else:
                high = middle
        return low


class Docket:
    """All questions, and the coins of the players."""

    def __init__(self, digests, coins, bond, patience):
        self._digests = digests
        self._coins = list(coins)
        self._bond = bond
        self._patience = patience
        self._questions = []

    def coins(self):
        """Returns the tuple of the coins of the players."""
        return tuple(self._coins)

    def held(self):
        """Returns the number of coins that are bonds of questions without an accepted answer."""
        return self._bond * sum([len(question.claims) for question in self._questions if question.accepted is None])

    def count(self):
        """Returns the number of questions."""
        return len(self._questions)

    def question(self, number):
        """Returns a question."""
        return self._questions[number]

    def take(self, player, letter, time):
        """Takes a value from a player at a time; lets it have its effect, and returns the word for it."""
        if not is_letter(self._digests, letter):
            return "letter"
        if letter[0] == "ask":
            return self._ask(letter)
        if letter[1] >= len(self._questions):
            return "question"
        question = self._questions[letter[1]]
        if question.accepted is not None:
            return "closed"
        if letter[0] == "claim":
            return self._claim(player, question, letter, time)
        return self._dispute(question.edges, letter, time)

    def decide(self, since, until):
        """Decides what the ticks behind since, up to until, decide; returns the list of those questions."""
        decided = []
        for number, question in enumerate(self._questions):
            if question.accepted is not None:
                continue
            tick = question.first_tick(self._patience, since, until)
            if tick is not None:
                self._accept(question, tick)
                decided.append(number)
        return decided

    def _ask(self, letter):
        _, image, inputs, level = letter
        if len(inputs) > 0 and inputs[0] == "answer":
            if inputs[1] >= len(self._questions):
                return "question"
            answer = self._questions[inputs[1]].answer()
            if answer is None:
                return "open"
            inputs = answer[1]
        start = start_of(self._digests, image, inputs)
        self._questions.append(Question(start, level, image, inputs))
        return "done"

    def _claim(self, player, question, letter, time):
        root = letter[2]
        if root in question.claims:
            return "stands"
        if not shows_claim(self._digests, question.level, letter):
            return "answer"
        if self._coins[player] < self._bond:
            return "coins"
        self._coins[player] = self._coins[player] - self._bond
        question.claims[root] = (player, answer_of(letter))
        question.edges.add(question.edge(root), time)
        return "done"

    def _dispute(self, edges, letter, time):
        edge = edge_of(letter)
        if not edges.stands(edge):
            return "edge"
        if not edges.has_rival(edge):
            return "rival"
        if letter[0] == "halve":
            return self._halve(edges, edge, letter, time)
        return self._prove(edges, edge, letter)

    def _halve(self, edges, edge, letter, time):
        if edge[0] == 0:
            return "level"
        if edges.halves(edge) is not None:
            return "halved"
        if not shows_halves(self._digests, letter):
            return "halves"
        left, right, last = letter[7:10]
        edges.halve(edge, halves_of(self._digests, edge, left, right, last), time)
        return "done"

    def _prove(self, edges, edge, letter):
        if edges.is_proven(edge):
            return "proven"
        if not shows_step(self._digests, letter):
            return "step"
        edges.prove(edge)
        return "done"

    def _accept(self, question, tick):
        question.accepted = question.winner(self._patience, tick)
        question.decided = tick
        owner = question.claims[question.accepted][0]
        self._coins[owner] = self._coins[owner] + self._bond * len(question.claims)
