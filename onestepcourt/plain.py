"""The plain reading: what a checked tree does."""

from onestepcourt.limits import MOST_TOLD
from onestepcourt.words import op


def plain(checked, inputs, units):
    """Returns the pair of the tuple of the words that a program tells, and the mark of its end."""
    _, sizes, functions, main = checked
    run = Run(sizes, functions, inputs, units)
    run.execute(main)
    return (run.told(), run.mark())


class Run:
    """A run of a program. Its values are None from the moment on at which it has ended."""

    def __init__(self, sizes, functions, inputs, units):
        self._tables = [[0] * size for size in sizes]
        self._functions = functions
        self._inputs = inputs
        self._units = units
        self._told = []
        # None as long as the run goes on.
        self._mark = None
        # The result of the function that was left by a give last.
        self._given = 0

    def execute(self, main):
        """Runs the main part."""
        _, slots, body = main
        if self._does_all(body, [0] * slots):
            self._mark = "done"

    def told(self):
        """Returns the tuple of the words that were told."""
        return tuple(self._told)

    def mark(self):
        """Returns the mark of the end, or None if there was none."""
        return self._mark

    def _ended(self, mark):
        """Ends the run. Returns None, the value of what comes to no value."""
        self._mark = mark
        return None

    def _has_unit(self):
        """Uses a unit; ends the run if there is none."""
        if self._units == 0:
            self._mark = "long"
            return False
        self._units = self._units - 1
        return True

    def _does_all(self, body, slots):
        """Runs a body; returns whether it came to its end, without a give and without the end of the run."""
        for statement in body:
            if not self._has_unit() or not self._does(statement, slots):
                return False
        return True

    def _does(self, statement, slots):
        """Executes a statement; returns whether what follows it is to be executed."""
        kind = statement[0]
        if kind == "while":
            return self._repeats(statement, slots)
        if kind == "put":
            return self._puts(statement, slots)
        if kind == "do":
            return self._called(statement, slots) is not None
        # All others begin with one expression; in front of it, let and set have a slot.
        value = self._value(statement[2] if kind in ("let", "set") else statement[1], slots)
        if value is None:
            return False
        if kind == "if":
            return self._does_all(statement[3] if value == 0 else statement[2], slots)
        if kind == "tell":
            return self._tells(value)
        if kind == "give":
            self._given = value
            return False
        slots[statement[1]] = value
        return True

    def _repeats(self, statement, slots):
        _, expression, body = statement
        value = self._value(expression, slots)
        while value is not None and value != 0:
            if not self._has_unit() or not self._does_all(body, slots):
                return False
            value = self._value(expression, slots)
        return value is not None

    def _puts(self, statement, slots):
        _, number, place_expression, expression = statement
        place = self._value(place_expression, slots)
        if place is None:
            return False
        value = self._value(expression, slots)
        if value is None:
            return False
        # The place is looked at last, behind all that the value does.
        table = self._tables[number]
        if place >= len(table):
            self._mark = "place"
            return False
        table[place] = value
        return True

    def _tells(self, value):
        if len(self._told) == MOST_TOLD:
            self._mark = "full"
            return False
        self._told.append(value)
        return True

    def _value(self, expression, slots):
        """Returns the value of an expression, or None if the run has ended in it."""
        kind = expression[0]
        if kind == "number":
            return expression[1]
        if kind == "slot":
            return slots[expression[1]]
        if kind == "inputs":
            return len(self._inputs)
        if kind == "op":
            return self._reckoned(expression, slots)
        if kind in ("and", "or"):
            return self._joined(expression, slots)
        if kind == "call":
            return self._called(expression, slots)
        # All others have one expression, at their end.
        value = self._value(expression[-1], slots)
        if value is None:
            return None
        if kind == "not":
            return 1 if value == 0 else 0
        if kind == "input":
            return self._inputs[value] if value < len(self._inputs) else self._ended("input")
        table = self._tables[expression[1]]
        return table[value] if value < len(table) else self._ended("place")

    def _reckoned(self, expression, slots):
        _, sign, left, right = expression
        a = self._value(left, slots)
        if a is None:
            return None
        b = self._value(right, slots)
        if b is None:
            return None
        result = op(sign, a, b)
        return self._ended("divided") if result is None else result

    def _joined(self, expression, slots):
        kind, left, right = expression
        value = self._value(left, slots)
        if value is None:
            return None
        if kind == "and" and value == 0:
            return 0
        if kind == "or" and value != 0:
            return 1
        value = self._value(right, slots)
        if value is None:
            return None
        return 0 if value == 0 else 1

    def _called(self, expression, slots):
        """Returns the result of a call or a do, or None if the run has ended in it."""
        _, function, args = expression
        values = []
        for arg in args:
            value = self._value(arg, slots)
            if value is None:
                return None
            values.append(value)
        params, many, body = self._functions[function]
        came_to_end = self._does_all(body, values + [0] * (many - params))
        if self._mark is not None:
            return None
        return 0 if came_to_end else self._given
