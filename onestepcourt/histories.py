"""Histories: the rows of the digests of all states of a run, with their roots and paths."""

from onestepcourt.machine import first_registers
from onestepcourt.openings import opened
from onestepcourt.runs import TurnedRun
from onestepcourt.trees import levels_of, path_in, root_of


class History:
    """The history of a run with 2 to the power of k steps.

    It keeps only the states between its blocks, and the roots of the blocks and of what they make up together. What
    lies within a block is run anew, as there are far more digests than blocks.
    """

    def __init__(self, digests, words, k, turn):
        self._digests = digests
        self._k = k
        self._turn = turn
        # A block is a range of this level.
        self._low = k // 2
        self._states = []
        self._levels = []
        self._halves = {}
        self._openings = {}
        self._run_whole((first_registers(), words, ()))

    def digest(self, steps):
        """Returns the digest of the state behind so many steps."""
        return self._run_at(steps).digest()

    def root(self, level, index):
        """Returns the root of a range."""
        if level >= self._low:
            return self._levels[level - self._low][index]
        block = index >> (self._low - level)
        return self._levels_in(block)[level][index - (block << (self._low - level))]

    def halves(self, level, index):
        """Returns the roots of the halves of a range, the last digest of the first one, and its path there."""
        key = (level, index)
        if key not in self._halves:
            left = self.root(level - 1, 2 * index)
            right = self.root(level - 1, 2 * index + 1)
            self._halves[key] = (left, right) + self._last(level - 1, 2 * index)
        return self._halves[key]

    def opening(self, steps):
        """Returns the opening of the state behind so many steps."""
        if steps not in self._openings:
            self._openings[steps] = opened(self._run_at(steps).machine())
        return self._openings[steps]

    def end(self):
        """Returns the last digest and its path, and the registers, memory and told words behind the last step."""
        run = self._run_at(1 << self._k)
        registers, _, told = run.state()
        return self._last(self._k, 0) + (registers, run.machine().root(), told)

    def _run_whole(self, state):
        """Runs all steps, and keeps the states between the blocks and the roots of the blocks and above them."""
        run = TurnedRun(self._digests, state, 0, self._turn)
        roots = []
        self._states.append(run.state())
        for _ in range(1 << (self._k - self._low)):
            roots.append(root_of(self._digests, self._row_by(run)))
            self._states.append(run.state())
        self._levels = levels_of(self._digests, roots)

    def _row_by(self, run):
        """Goes on with a run for the steps of a block; returns the row of the digests behind them."""
        row = []
        for _ in range(1 << self._low):
            run.step()
            row.append(run.digest())
        return row

    def _levels_in(self, block):
        """Returns the row of the digests of a block, and the levels above it up to the block's root."""
        run = TurnedRun(self._digests, self._states[block], block << self._low, self._turn)
        return levels_of(self._digests, self._row_by(run))

    def _run_at(self, steps):
        """Returns a run that has come to the state behind so many steps."""
        block = min(steps >> self._low, len(self._states) - 1)
        ahead = block << self._low
        run = TurnedRun(self._digests, self._states[block], ahead, self._turn)
        for _ in range(steps - ahead):
            run.step()
        return run

    def _last(self, level, index):
        """Returns the pair of the last digest of a range and its path in the range."""
        place = ((index + 1) << level) - 1
        block = place >> self._low
        levels = self._levels_in(block)
        place_in_block = place - (block << self._low)
        # The lower part of the path lies within the block, the upper one above the roots of the blocks.
        lower = path_in(levels[:min(level, self._low) + 1], place_in_block)
        upper = path_in(self._levels[:max(level - self._low, 0) + 1], block)
        return (levels[0][place_in_block], lower + upper)
