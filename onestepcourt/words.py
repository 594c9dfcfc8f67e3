"""Words, and what the signs make of two of them."""

from onestepcourt.limits import MOST_WORD

SIGNS = ("+", "-", "*", "/", "mod", "==", "!=", "<", "<=", ">", ">=")


def op(sign, a, b):
    """Returns the result of a sign for two words, or None if there is none."""
    if sign in ("/", "mod"):
        return divided(sign, a, b)
    if sign in ("+", "-", "*"):
        return wrapped(sign, a, b)
    return 1 if holds(sign, a, b) else 0


def divided(sign, a, b):
    """Returns the quotient or the rest, or None if the divisor is 0."""
    if b == 0:
        return None
    return a // b if sign == "/" else a % b


def wrapped(sign, a, b):
    """Returns the sum, the difference or the product as a word."""
    if sign == "+":
        result = a + b
    elif sign == "-":
        result = a - b
    else:
        result = a * b
    return result % (MOST_WORD + 1)


def holds(sign, a, b):
    """Tells whether a comparison is so."""
    if sign == "==":
        return a == b
    if sign == "!=":
        return a != b
    if sign == "<":
        return a < b
    if sign == "<=":
        return a <= b
    if sign == ">":
        return a > b
    return a >= b
