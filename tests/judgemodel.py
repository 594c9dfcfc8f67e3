"""What the tests reckon of ledgers on their own, from the words of part 11."""

import reckoning
from courtmodel import CourtModel
from model import Model
from rows import FIRST, memory
from onestepcourt.digests import Digests
from onestepcourt.errors import BadOpening
from onestepcourt.letters import is_letter
from onestepcourt.openings import step_of


class Replaying(CourtModel):
    """A court of the tests that takes openings of any state."""

    def __init__(self, bits, coins, bond, patience):
        self.digests = Digests(bits, None)
        super().__init__(bits, coins, bond, patience, {}, lambda value: is_letter(self.digests, value))

    def is_step(self, start, root, opening):
        try:
            return step_of(self.digests, start, opening) == root
        except BadOpening:
            return False


def replayed(bits, ledger):
    """A court of the tests behind all letters and ticks, and the right words of the log."""
    coins, bond, patience, time, log, roots, left = ledger
    court = Replaying(bits, coins, bond, patience)
    words = []
    for now, player, letter, word in log:
        while court.now < now:
            court.tick()
        words.append(court.receive(player, letter))
    while court.now < time:
        court.tick()
    return court, words


def faults_of(bits, ledger):
    """Point 1103."""
    court, words = replayed(bits, ledger)
    coins, bond, patience, time, log, roots, left = ledger
    faults = [("word", place) for place, word in enumerate(words) if log[place][3] != word]
    padded = roots + (None,) * len(court.questions)
    faults += [("accepted", number) for number, question in enumerate(court.questions)
               if padded[number] != question["accepted"]]
    faults += [("questions",)] if len(roots) != len(court.questions) else []
    faults += [("coins",)] if left != tuple(court.coins) else []
    return faults


def path_texts(bits, place, digest, path):
    texts = set()
    for item in path:
        pair = (item, digest) if place % 2 else (digest, item)
        texts.add(("fold", pair))
        digest = reckoning.fold(bits, *pair)
        place //= 2
    return texts


def told_texts(bits, words):
    texts, out = set(), 7
    for word in words:
        leaf = reckoning.leaf(bits, word)
        texts |= {("leaf", word), ("fold", (out, leaf))}
        out = reckoning.fold(bits, out, leaf)
    return texts


def row_texts(bits, row):
    """All pairs that are folded for the root of a row, and the root."""
    texts = set()
    while len(row) > 1:
        pairs = [(row[place], row[place + 1]) for place in range(0, len(row), 2)]
        texts |= {("fold", pair) for pair in pairs}
        row = [reckoning.fold(bits, *pair) for pair in pairs]
    return texts, row[0]


def run_texts(bits, words, level):
    """The memories behind all steps, the states, the told words and the history."""
    model = Model(bits, FIRST, words)
    texts, digests, seen = set(), [], {}
    for step in range(2 ** level + 1):
        if step > 0:
            model.step()
        held = tuple(model.words)
        if held not in seen:
            folds, seen[held] = row_texts(bits, reckoning.leaves(bits, held))
            texts |= folds | {("leaf", word) for word in held}
        state = model.registers() + (seen[held],)
        texts.add(("state", state))
        digests.append(reckoning.state(bits, state))
    return texts | told_texts(bits, model.told) | row_texts(bits, digests[1:])[0]


def claim_texts(bits, level, letter):
    kind, number, root, last, path, registers, memory_root, told = letter
    return (path_texts(bits, 2 ** level - 1, last, path) | {("state", registers + (memory_root,))}
            | told_texts(bits, told))


def halve_texts(bits, letter):
    kind, number, level, index, prefix, start, root, left, right, last, path = letter
    return (path_texts(bits, 2 ** (level - 1) - 1, last, path)
            | {("fold", (left, right)), ("fold", (prefix, left))})


def prove_texts(bits, letter):
    """What step_of reckons for a right opening."""
    registers, root, parts = letter[6]
    texts = {("state", registers + (root,))}
    if registers[3] != 0:
        return texts
    model = Model(bits, registers, (0,) * 256)
    model.words[registers[0]] = parts[0][0]
    places = [registers[0]] + ([model.other()[0]] if model.other() is not None else [])
    for place, (word, path) in zip(places, parts):
        texts |= {("leaf", word)} | path_texts(bits, place, reckoning.leaf(bits, word), path)
        model.words[place] = word
    told, changes = len(model.told), model.other() is not None and model.other()[1]
    model.step()
    if len(model.told) > told:
        leaf = reckoning.leaf(bits, registers[1])
        texts |= {("leaf", registers[1]), ("fold", (registers[4], leaf))}
    if changes:
        word, path = model.words[places[1]], parts[1][1]
        leaf = reckoning.leaf(bits, word)
        texts |= {("leaf", word)} | path_texts(bits, places[1], leaf, path)
        place = places[1]
        for item in path:
            leaf = reckoning.fold(bits, item, leaf) if place % 2 else reckoning.fold(bits, leaf, item)
            place //= 2
        root = leaf
    return texts | {("state", model.registers() + (root,))}


def texts_of(bits, ledger):
    """All texts of point 1106."""
    court, words = replayed(bits, ledger)
    texts = set()
    for question in court.questions:
        start = memory(question["image"], question["inputs"])
        texts |= run_texts(bits, start, question["level"])
    for (time, player, letter, _), word in zip(ledger[4], words):
        if word != "done":
            continue
        if letter[0] == "claim":
            texts |= claim_texts(bits, court.questions[letter[1]]["level"], letter)
        elif letter[0] == "halve":
            texts |= halve_texts(bits, letter)
        elif letter[0] == "prove":
            texts |= prove_texts(bits, letter)
    return texts


def digest_of(bits, kind, text):
    if kind == "leaf":
        return reckoning.leaf(bits, text)
    return reckoning.fold(bits, *text) if kind == "fold" else reckoning.state(bits, text)


def collide(bits, texts):
    return len({(kind, digest_of(bits, kind, text)) for kind, text in texts}) < len(texts)
