"""Openings: the few parts of a state that its next step needs."""

from onestepcourt.digests import is_integer, is_word
from onestepcourt.errors import BadOpening
from onestepcourt.limits import DEPTH, MOST_TOLD
from onestepcourt.machine import MARKS, data_of, done_by
from onestepcourt.trees import PLACES, root_by


def opened(machine):
    """Returns the opening of the state of a machine."""
    registers = machine.registers()
    places = []
    if registers[3] == 0:
        places = places_of(registers, machine.word(registers[0]))
    parts = [(machine.word(place), machine.path(place)) for place in places]
    return (registers, machine.root(), tuple(parts))


def places_of(registers, word):
    """Returns the places that a step with this instruction reads or changes, its own first."""
    other = data_of(registers, word)
    return [registers[0]] if other is None else [registers[0], other[0]]


def step_of(digests, digest, opening):
    """Returns the digest of the next state, by an opening of the state with this digest."""
    if not is_opening(digests, opening):
        raise BadOpening()
    registers, root, parts = opening
    if digests.state(registers + (root,)) != digest:
        raise BadOpening()
    if registers[3] == 0:
        return step_by(digests, registers, root, parts)
    if len(parts) != 0:
        raise BadOpening()
    return digest


def step_by(digests, registers, root, parts):
    """Returns the digest behind a step of a machine that has not halted, by the parts of its opening."""
    if len(parts) == 0:
        raise BadOpening()
    word = parts[0][0]
    places = places_of(registers, word)
    if len(parts) != len(places):
        raise BadOpening()
    for place, part in zip(places, parts):
        if root_with(digests, place, part[0], part[1]) != root:
            raise BadOpening()
    # Without another word the last part is the instruction; then its word is not looked at as data.
    data, path = parts[-1]
    registers_then, changed = done_by(digests, registers, word, data)
    if changed is None:
        return digests.state(registers_then + (root,))
    return digests.state(registers_then + (root_with(digests, places[-1], changed, path),))


def root_with(digests, place, word, path):
    """Returns the root of a memory with this word at this place, by the word's path."""
    return root_by(digests, place, digests.leaf(word), path)


def is_opening(digests, value):
    """Tells whether a value has the form of an opening."""
    if not isinstance(value, tuple) or len(value) != 3:
        return False
    registers, root, parts = value
    if not are_registers(digests, registers) or not digests.is_digest(root) or not isinstance(parts, tuple):
        return False
    return all([is_part(digests, part) for part in parts])


def is_part(digests, value):
    """Tells whether a value is a pair of a word and a tuple of DEPTH digests."""
    if not isinstance(value, tuple) or len(value) != 2:
        return False
    word, path = value
    if not is_word(word) or not isinstance(path, tuple) or len(path) != DEPTH:
        return False
    return all([digests.is_digest(item) for item in path])


def are_registers(digests, value):
    """Tells whether a value is a tuple of registers."""
    if not isinstance(value, tuple) or len(value) != 6:
        return False
    pc, acc, x, mark, out, count = value
    if not is_integer(pc, 0, PLACES - 1) or not is_word(acc) or not is_word(x):
        return False
    if not is_integer(mark, 0, len(MARKS) - 1) or not digests.is_digest(out):
        return False
    return is_integer(count, 0, MOST_TOLD)
