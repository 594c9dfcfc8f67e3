"""Letters: what players may tell the court."""

from onestepcourt.digests import is_integer, is_word
from onestepcourt.forms import is_count, is_row, is_tuple
from onestepcourt.limits import MOST_INPUTS, MOST_LEVEL, MOST_TOLD
from onestepcourt.machine import MOST_IMAGE
from onestepcourt.openings import are_registers

# The prefix of the edge of a claim: nothing comes before it.
FIRST_PREFIX = 5

# What follows the name of a letter, item by item.
PARTS = {
    "ask": ("image", "inputs", "level"),
    "claim": ("number", "digest", "digest", "path", "registers", "digest", "row"),
    "halve": (
        "number", "number", "number", "digest", "digest", "digest", "digest", "digest", "digest", "path",
    ),
    "prove": ("number", "number", "digest", "digest", "digest", "anything"),
}


def is_letter(digests, value):
    """Tells whether a value is a letter."""
    # Other values than strings are not looked up: their own comparison may do anything.
    if not isinstance(value, tuple) or len(value) == 0 or not isinstance(value[0], str) or value[0] not in PARTS:
        return False
    parts = PARTS[value[0]]
    if len(value) != len(parts) + 1:
        return False
    return all([is_part(digests, item, part) for item, part in zip(value[1:], parts)])


def is_part(digests, value, part):
    """Tells whether a value is such a part of a letter."""
    if part == "digest":
        return digests.is_digest(value)
    if part == "number":
        return is_count(value)
    if part == "path":
        return isinstance(value, tuple) and all([digests.is_digest(item) for item in value])
    if part == "registers":
        return are_registers(digests, value)
    if part == "row":
        return is_row(value, MOST_TOLD, is_word)
    if part == "image":
        return is_row(value, MOST_IMAGE, is_word)
    if part == "inputs":
        return is_row(value, MOST_INPUTS, is_word) or is_answer(value)
    if part == "level":
        return is_integer(value, 0, MOST_LEVEL)
    return True


def is_answer(value):
    """Tells whether a value stands for the answer of another question."""
    return is_tuple(value, 2) and isinstance(value[0], str) and value[0] == "answer" and is_count(value[1])
