"""Checked trees: source trees with numbers for names."""

from onestepcourt.digests import is_integer
from onestepcourt.errors import BadProgram
from onestepcourt.forms import is_body, is_count, is_row, is_size, is_tuple, is_whole
from onestepcourt.limits import MOST_FUNCTIONS, MOST_PARAMS, MOST_TABLES
from onestepcourt.resolving import resolved


def is_checked(value):
    """Tells whether a value is a checked tree."""
    if not is_formed(value):
        return False
    _, sizes, functions, main = value
    try:
        # The numbers are right if each of them stands for itself.
        return resolved(tuple(enumerate(sizes)), numbered(functions), main[2]) == value
    except BadProgram:
        return False


def numbered(functions):
    """Returns the functions of a checked tree with the numbers of functions and params in place of their names."""
    made = []
    for place, (params, slots, body) in enumerate(functions):
        made.append((place, tuple(range(params)), body))
    return tuple(made)


def is_formed(value):
    """Tells whether a value has the form of a checked tree, whatever its numbers stand for."""
    if not is_whole(value, "checked"):
        return False
    _, sizes, functions, main = value
    if not is_row(sizes, MOST_TABLES, is_size) or not is_row(functions, MOST_FUNCTIONS, is_part):
        return False
    return is_part(main)


def is_part(value):
    """Tells whether a value has the form of a function or of the main part."""
    if not is_tuple(value, 3):
        return False
    params, slots, body = value
    return is_integer(params, 0, MOST_PARAMS) and is_count(slots) and is_body(body, 1, False)
