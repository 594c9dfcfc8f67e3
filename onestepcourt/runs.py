"""Runs of machines that may be turned behind one of their steps."""

from onestepcourt.machine import MARKS, Machine, out_of
from onestepcourt.trees import PLACES


class TurnedRun:
    """A run that goes on from a state behind so many steps.

    A state is the triple of the registers, the words of the memory, and all words that were told up to there.
    """

    def __init__(self, digests, state, steps, turn):
        self._digests = digests
        self._steps = steps
        self._turn = turn
        self._put(state)

    def step(self):
        """Executes a step, and turns the state behind it if the turn stands there."""
        self._machine.step()
        self._steps = self._steps + 1
        if self._turn is not None and self._turn[1] == self._steps:
            self._put(turned(self._digests, self.state(), self._turn))

    def state(self):
        """Returns the state."""
        return (self._machine.registers(), self._machine.words(), self._told + self._machine.told())

    def digest(self):
        """Returns the digest of the state."""
        return self._machine.digest()

    def machine(self):
        """Returns the machine in the state."""
        return self._machine

    def _put(self, state):
        registers, words, told = state
        self._machine = Machine(self._digests, registers, words)
        # What was told before this machine was made.
        self._told = told


def turned(digests, state, turn):
    """Returns the state that a turn makes of a state."""
    registers, words, told = state
    if turn[0] == "word":
        place = turn[2] % PLACES
        return (registers, words[:place] + (turn[3],) + words[place + 1:], told)
    pc, acc, x = registers[:3]
    said = turn[2]
    return ((pc, acc, x, MARKS.index("done"), out_of(digests, said), len(said)), words, said)
