"""Draws: numbers that look drawn, but follow from a first one."""


class Draws:
    """Draws from a number."""

    def __init__(self, number):
        self._number = number

    def drawn(self, many):
        """Returns the next drawn number, from 0 to many less 1."""
        self._number = (self._number * 16807 + 29) % 2147483647
        return self._number // 7 % many
