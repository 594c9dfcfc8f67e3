"""Runs that the tests reckon on their own: all states and digests of a run, and the letters that tell them."""

import functools

import reckoning
from model import Model, code

FIRST = (0, 0, 0, 0, 7, 0)
MARKS = ("long", "done", "divided", "place", "input", "full", "bad")

# Programs of the machine: each one with the number of the steps behind which it has halted, or None.
HALTS_AT_ONCE = ((code("halt"),), 1)
HALTS_LATE = ((code("load", 100), code("tell"), code("+", 101), code("store", 100), code("lit", 1), code("store", 101),
                code("jump", 0)), 16 * 7 + 2)
COUNTS = ((code("load", 30), code("+", 31), code("store", 30), code("jump", 0)) + (0,) * 27 + (1,), None)
TELLS = ((code("lit", 5), code("tell"), code("load", 240), code("tell"), code("store", 50), code("call", 8),
          code("halt"), 0, 0, code("lit", 9), code("tell"), code("back", 8)), 10)


def memory(image, inputs):
    """All words at the start, from point 303."""
    words = [0] * 256
    words[:len(image)] = image
    words[239] = len(inputs)
    words[240:240 + len(inputs)] = inputs
    return tuple(words)


class Row:
    """A run of 2 ** k steps with all of its states (point 700), with one turn (point 702) or several, if there are."""

    def __init__(self, bits, words, k, *turns):
        self.bits = bits
        self.k = k
        self.states = []
        self.openings = []
        # By the digest of a state: its opening, and the digest behind its right step.
        self.steps = {}
        model = Model(bits, FIRST, words)
        self.keep(model)
        for step in range(1, 2 ** k + 1):
            model.step()
            self.steps[self.states[-1][3]] = (self.openings[-1], model.digest())
            for turn in turns:
                if turn is not None and turn[1] == step:
                    self.turned(model, turn)
            self.keep(model)
        self.row = tuple(digest for registers, root, told, digest in self.states[1:])
        self.start = self.states[0][3]

    def turned(self, model, turn):
        if turn[0] == "word":
            model.words[turn[2]] = turn[3]
        else:
            model.at["mark"] = 1
            model.at["out"] = reckoning.out_of(self.bits, turn[2])
            model.at["count"] = len(turn[2])
            model.told = list(turn[2])

    def keep(self, model):
        leaves = reckoning.leaves(self.bits, model.words)
        registers, root = model.registers(), reckoning.root(self.bits, leaves)
        self.states.append((registers, root, tuple(model.told), reckoning.state(self.bits, registers + (root,))))
        places = []
        if model.at["mark"] == 0:
            places.append(model.at["pc"])
            if model.other() is not None:
                places.append(model.other()[0])
        parts = tuple((model.words[place], reckoning.path(self.bits, leaves, place)) for place in places)
        self.openings.append((registers, root, parts))

    def range(self, level, index):
        return self.row[index * 2 ** level:(index + 1) * 2 ** level]

    @functools.cache
    def root(self, level, index):
        return reckoning.root(self.bits, self.range(level, index))

    @functools.cache
    def last(self, level, index):
        """The last digest of a range, and its path."""
        digests = self.range(level, index)
        return (digests[-1], reckoning.path(self.bits, digests, len(digests) - 1))

    def halves(self, level, index):
        first = (level - 1, 2 * index)
        return (self.root(*first), self.root(level - 1, 2 * index + 1)) + self.last(*first)

    def end(self):
        registers, root, told, digest = self.states[-1]
        return self.last(self.k, 0) + (registers, root, told)

    def answer(self):
        return (MARKS[self.states[-1][0][3]], self.states[-1][2])

    # Edges and letters, from points 801 to 805 and 901.

    def claimed(self):
        return (self.k, 0, 5, self.start, self.root(self.k, 0))

    def half_edges(self, edge):
        level, index, prefix, start, root = edge
        left, right, last, path = self.halves(level, index)
        return ((level - 1, 2 * index, prefix, start, left),
                (level - 1, 2 * index + 1, reckoning.fold(self.bits, prefix, left), last, right))

    def edge(self, level, index):
        """The edge of a range of this history."""
        edge = self.claimed()
        while edge[0] > level:
            edge = self.half_edges(edge)[index >> (edge[0] - 1 - level) & 1]
        return edge

    def claim(self, number):
        return ("claim", number, self.root(self.k, 0)) + self.end()

    def halve(self, number, edge):
        return ("halve", number) + edge + self.halves(edge[0], edge[1])

    def prove(self, number, edge):
        return ("prove", number) + edge[1:] + (self.openings[edge[1]],)

    def way_to(self, step):
        """The edges of this history from the claimed one down to that of a step, counted from 1."""
        return [self.edge(level, (step - 1) >> level) for level in range(self.k, -1, -1)]


@functools.cache
def row(bits, image, inputs, k, *turns):
    return Row(bits, memory(image, inputs), k, *turns)


@functools.cache
def first_difference(one, other):
    """The first step behind which two rows have different digests, counted from 1."""
    return 1 + [x == y for x, y in zip(one.row, other.row)].index(False)
