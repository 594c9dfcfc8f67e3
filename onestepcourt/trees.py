"""Roots and paths of rows of digests, and the memory, a row of words with a root."""

# The number of the words of a memory: 2 to the power of DEPTH.
PLACES = 256


def root_of(digests, row):
    """Returns the root of a row."""
    return levels_of(digests, row)[-1][0]


def path_of(digests, row, place):
    """Returns the path of a place in a row."""
    # Beyond the row the places begin anew, as they do for root_by.
    return path_in(levels_of(digests, row), place % len(row))


def root_by(digests, place, digest, path):
    """Returns the root to which a digest at a place leads by a path."""
    root = digest
    for item in path:
        if place % 2 == 0:
            root = digests.fold(root, item)
        else:
            root = digests.fold(item, root)
        place = place // 2
    return root


def levels_of(digests, row):
    """Returns the row, the row of the folds of its pairs, and so on up to the root alone."""
    levels = [list(row)]
    while len(levels[-1]) > 1:
        below = levels[-1]
        levels.append([digests.fold(below[k], below[k + 1]) for k in range(0, len(below), 2)])
    return levels


def path_in(levels, place):
    """Returns the path of a place in a row whose levels are known."""
    path = []
    for level in levels[:-1]:
        neighbour = place + 1 if place % 2 == 0 else place - 1
        path.append(level[neighbour])
        place = place // 2
    return tuple(path)


class Memory:
    """A row of words whose root and paths are always those of the row as it is.

    The place behind the last one is 0 again.
    """

    def __init__(self, digests, words):
        self._digests = digests
        self._words = list(words[:PLACES]) + [0] * (PLACES - len(words))
        self._levels = levels_of(digests, [digests.leaf(word) for word in self._words])

    def word(self, place):
        """Returns the word at a place."""
        return self._words[place % PLACES]

    def change(self, place, word):
        """Changes the word at a place."""
        at = place % PLACES
        self._words[at] = word
        self._levels[0][at] = self._digests.leaf(word)
        for height in range(1, len(self._levels)):
            at = at // 2
            below = self._levels[height - 1]
            self._levels[height][at] = self._digests.fold(below[2 * at], below[2 * at + 1])

    def words(self):
        """Returns the tuple of all words."""
        return tuple(self._words)

    def root(self):
        """Returns the root of the row of the leaves of the words."""
        return self._levels[-1][0]

    def path(self, place):
        """Returns the path of the leaf of the word at a place."""
        return path_in(self._levels, place % PLACES)
