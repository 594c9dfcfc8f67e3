"""Onestepcourt: a disputed run that is narrowed down to one step."""
