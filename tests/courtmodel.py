"""A court that the tests keep on their own, from the words of part 8: it counts ticks one by one, edge by edge.

It knows which steps are right from the rows of the tests, and looks for rivals among all edges each time.
"""

import reckoning
from rows import MARKS, memory

ENDLESS = float("inf")


class CourtModel:
    def __init__(self, bits, coins, bond, patience, steps, is_letter):
        self.bits = bits
        self.coins = list(coins)
        self.bond = bond
        self.patience = patience
        self.steps = steps
        self.is_letter = is_letter
        self.now = 0
        self.questions = []
        self.log = []

    def receive(self, player, letter):
        word = self.word(player, letter)
        self.log.append((self.now, player, letter, word))
        return word

    def word(self, player, letter):
        if not self.is_letter(letter):
            return "letter"
        kind, number, *rest = letter
        if kind == "ask":
            return self.ask(*letter[1:])
        if number >= len(self.questions):
            return "question"
        if self.questions[number]["accepted"] is not None:
            return "closed"
        return getattr(self, kind)(player, self.questions[number], *rest)

    def ask(self, image, inputs, level):
        if inputs[:1] == ("answer",):
            if inputs[1] >= len(self.questions):
                return "question"
            other = self.questions[inputs[1]]
            if other["accepted"] is None:
                return "open"
            inputs = other["claims"][other["accepted"]][1][1]
        root = reckoning.root(self.bits, reckoning.leaves(self.bits, memory(image, inputs)))
        start = reckoning.state(self.bits, (0, 0, 0, 0, 7, 0, root))
        self.questions.append({"start": start, "level": level, "image": image, "inputs": inputs, "edges": {},
                               "claims": {}, "accepted": None})
        return "done"

    def root_by(self, place, digest, path):
        for item in path:
            pair = (item, digest) if place % 2 else (digest, item)
            digest = reckoning.fold(self.bits, *pair)
            place //= 2
        return digest

    def claim(self, player, question, root, last, path, registers, memory_root, told):
        level = question["level"]
        edge = (level, 0, 5, question["start"], root)
        if edge in question["edges"]:
            return "stands"
        if not (len(path) == level and self.root_by(2 ** level - 1, last, path) == root
                and reckoning.state(self.bits, registers + (memory_root,)) == last
                and len(told) == registers[5] and reckoning.out_of(self.bits, told) == registers[4]):
            return "answer"
        if self.coins[player] < self.bond:
            return "coins"
        self.coins[player] -= self.bond
        question["claims"][root] = (player, (MARKS[registers[3]], told))
        self.stand(question, edge)
        return "done"

    def stand(self, question, edge):
        question["edges"].setdefault(edge, {"counted": 0, "halves": None, "proven": False})

    def has_rival(self, question, edge):
        return any(other[:4] == edge[:4] and other != edge for other in question["edges"])

    def halve(self, player, question, level, index, prefix, start, root, left, right, last, path):
        edge = (level, index, prefix, start, root)
        if edge not in question["edges"]:
            return "edge"
        if not self.has_rival(question, edge):
            return "rival"
        if level == 0:
            return "level"
        if question["edges"][edge]["halves"] is not None:
            return "halved"
        if not (reckoning.fold(self.bits, left, right) == root and len(path) == level - 1
                and self.root_by(2 ** (level - 1) - 1, last, path) == left):
            return "halves"
        halves = ((level - 1, 2 * index, prefix, start, left),
                  (level - 1, 2 * index + 1, reckoning.fold(self.bits, prefix, left), last, right))
        question["edges"][edge]["halves"] = halves
        for half in halves:
            self.stand(question, half)
        return "done"

    def prove(self, player, question, index, prefix, start, root, opening):
        edge = (0, index, prefix, start, root)
        if edge not in question["edges"]:
            return "edge"
        if not self.has_rival(question, edge):
            return "rival"
        if question["edges"][edge]["proven"]:
            return "proven"
        if not self.is_step(start, root, opening):
            return "step"
        question["edges"][edge]["proven"] = True
        return "done"

    def is_step(self, start, root, opening):
        return start in self.steps and self.steps[start] == (opening, root)

    def tick(self):
        self.now += 1
        decided = []
        for number, question in enumerate(self.questions):
            if question["accepted"] is not None:
                continue
            for edge, kept in question["edges"].items():
                if not self.has_rival(question, edge):
                    kept["counted"] += 1
            enough = [root for root in question["claims"] if self.timer(
                question, (question["level"], 0, 5, question["start"], root)) >= self.patience]
            if enough:
                question["accepted"] = min(enough)
                owner = question["claims"][min(enough)][0]
                self.coins[owner] += self.bond * len(question["claims"])
                decided.append(number)
        return decided

    def timer(self, question, edge):
        kept = question["edges"][edge]
        if kept["proven"]:
            return ENDLESS
        if kept["halves"] is None:
            return kept["counted"]
        return kept["counted"] + min(self.timer(question, half) for half in kept["halves"])

    def told(self):
        """All that the court tells of itself."""
        return {
            "time": self.now, "coins": tuple(self.coins), "count": len(self.questions), "log": self.log,
            "held": self.bond * sum(len(question["claims"]) for question in self.questions
                                    if question["accepted"] is None),
            "questions": [self.told_of(question) for question in self.questions],
        }

    def told_of(self, question):
        accepted = question["accepted"]
        timers = {edge: self.timer(question, edge) for edge in question["edges"]}
        return {
            "question": tuple(question[part] for part in ("start", "level", "image", "inputs")),
            "claims": sorted((root,) + question["claims"][root] for root in question["claims"]),
            "edges": sorted(question["edges"]),
            "kept": {edge: (self.has_rival(question, edge), kept["proven"], kept["halves"],
                            None if timers[edge] == ENDLESS else timers[edge])
                     for edge, kept in question["edges"].items()},
            "accepted": accepted, "answer": None if accepted is None else question["claims"][accepted][1],
        }


def told_by(court):
    """The same of a court of the program."""
    return {
        "time": court.time(), "coins": court.coins(), "count": court.count(), "log": court.log(), "held": court.held(),
        "questions": [told_of(court, number) for number in range(court.count())],
    }


def told_of(court, number):
    return {
        "question": court.question(number), "claims": court.claims(number), "edges": court.edges(number),
        "kept": {edge: (court.has_rival(number, edge), court.is_proven(number, edge), court.halves(number, edge),
                        court.timer(number, edge)) for edge in court.edges(number)},
        "accepted": court.accepted(number), "answer": court.answer(number),
    }
