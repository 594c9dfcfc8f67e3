"""What has to be reckoned to see that a letter is right, and what follows from it."""

from onestepcourt.errors import BadOpening
from onestepcourt.machine import MARKS, first_registers, first_words, out_of
from onestepcourt.openings import step_of
from onestepcourt.trees import Memory, root_by


def start_of(digests, image, inputs):
    """Returns the digest of the state at the start with this image and these inputs."""
    memory = Memory(digests, first_words(image, inputs))
    return digests.state(first_registers() + (memory.root(),))


def shows_claim(digests, level, letter):
    """Tells whether a claim of so many steps as the level has shows its answer."""
    _, _, root, last, path, registers, memory, told = letter
    # Lengths are looked at first: they bound what is reckoned.
    if len(path) != level or len(told) != registers[5]:
        return False
    if root_by(digests, (1 << level) - 1, last, path) != root:
        return False
    return digests.state(registers + (memory,)) == last and out_of(digests, told) == registers[4]


def answer_of(letter):
    """Returns the answer of a claim."""
    return (MARKS[letter[5][3]], letter[7])


def edge_of(letter):
    """Returns the edge of which a halving or a proving speaks."""
    return letter[2:7] if letter[0] == "halve" else (0,) + letter[2:6]


def shows_halves(digests, letter):
    """Tells whether a halving of a level greater than 0 shows that it is right."""
    _, _, level, _, _, _, root, left, right, last, path = letter
    if len(path) != level - 1 or digests.fold(left, right) != root:
        return False
    return root_by(digests, (1 << (level - 1)) - 1, last, path) == left


def halves_of(digests, edge, left, right, last):
    """Returns the pair of the edges of the halves of an edge."""
    level, index, prefix, start, _ = edge
    prefix_then = digests.fold(prefix, left)
    return (
        (level - 1, 2 * index, prefix, start, left),
        (level - 1, 2 * index + 1, prefix_then, last, right),
    )


def shows_step(digests, letter):
    """Tells whether the opening of a proving leads from the start of the edge to its root."""
    _, _, _, _, start, root, opening = letter
    try:
        return step_of(digests, start, opening) == root
    except BadOpening:
        return False
