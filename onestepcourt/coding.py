"""Coding: from a function or the main part of a checked tree to instructions.

The places of things are known only when all code is there. So an instruction is a pair (word, area): the start of
the area is still to be added to the word. These are the areas:
("fixed", 0), which begins at place 0; ("code", part) and ("return", part), the code of a part and the word in front
of it; ("number", n), the word of a number; ("slots", part) and ("temporaries", part); ("table", k).
A part is the number of a function, or that of all functions for the main part.
"""

from onestepcourt.machine import COUNTED, GIVEN, NAMES

FIXED = ("fixed", 0)
# The greatest number that stands in an instruction itself.
MOST_SHORT = 1023


class Code:
    """The code of one part of a program."""

    def __init__(self, part, sizes):
        self._part = part
        self._sizes = sizes
        self._instructions = []
        self._temporaries = 0
        self._weight = 0
        self._pace = 1

    def instructions(self):
        """Returns the list of the instructions."""
        return list(self._instructions)

    def temporaries(self):
        """Returns the number of the temporaries that the code names."""
        return self._temporaries

    def pace(self):
        """Returns the greatest weight of a statement, or 1 if there are none."""
        return self._pace

    def add_function(self, body):
        """Adds the code of a function."""
        self._add_body(body)
        self._add("lit", FIXED, 0)
        self._add("back", ("return", self._part), 0)

    def add_main(self, body):
        """Adds the code of the main part."""
        self._add_body(body)
        self._add("halt", FIXED, 0)

    def _add(self, name, area, at):
        """Adds an instruction whose argument is this place of the area."""
        self._instructions.append((1024 * NAMES.index(name) + at, area))
        self._weight = self._weight + 1

    def _add_slot(self, name, slot):
        self._add(name, ("slots", self._part), slot)

    def _add_temporary(self, name, number):
        self._add(name, ("temporaries", self._part), number)
        self._temporaries = max(self._temporaries, number + 1)

    def _add_jump(self, name, place):
        """Adds a jump to a place of the code; returns its own place."""
        self._add(name, ("code", self._part), place)
        return len(self._instructions) - 1

    def _add_jump_ahead(self, name):
        """Adds a jump to a place that is not known yet, for _land."""
        return self._add_jump(name, 0)

    def _land(self, jump):
        """Lets a jump ahead lead to the place of the next instruction."""
        word, area = self._instructions[jump]
        self._instructions[jump] = (word + len(self._instructions), area)

    def _add_body(self, body):
        for statement in body:
            # The statements of a body do not count for the statement around it.
            weight = self._weight
            self._weight = 0
            self._add_statement(statement)
            self._pace = max(self._pace, self._weight)
            self._weight = weight

    def _add_statement(self, statement):
        kind = statement[0]
        if kind in ("let", "set"):
            self._add_value(statement[2], 0)
            self._add_slot("store", statement[1])
        elif kind == "put":
            self._add_put(statement)
        elif kind == "if":
            self._add_if(statement)
        elif kind == "while":
            self._add_while(statement)
        elif kind == "do":
            self._add_call(statement, 0)
        elif kind == "tell":
            self._add_value(statement[1], 0)
            self._add("tell", FIXED, 0)
        else:
            self._add_value(statement[1], 0)
            self._add("back", ("return", self._part), 0)

    def _add_put(self, statement):
        _, table, place, value = statement
        self._add_value(place, 0)
        self._add_temporary("store", 0)
        self._add_value(value, 1)
        self._add_temporary("index", 0)
        self._add("bound", FIXED, self._sizes[table])
        self._add("storex", ("table", table), 0)

    def _add_if(self, statement):
        _, test, body, other = statement
        self._add_value(test, 0)
        past_body = self._add_jump_ahead("zero")
        self._add_body(body)
        if len(other) == 0:
            self._land(past_body)
            return
        past_other = self._add_jump_ahead("jump")
        self._land(past_body)
        self._add_body(other)
        self._land(past_other)

    def _add_while(self, statement):
        _, test, body = statement
        start = len(self._instructions)
        self._add_value(test, 0)
        past_body = self._add_jump_ahead("zero")
        self._add_body(body)
        self._add_jump("jump", start)
        self._land(past_body)

    def _add_value(self, expression, free):
        """Adds the code that leaves the value of an expression in acc; free is the first free temporary."""
        kind = expression[0]
        if kind == "number":
            self._add_number(expression[1])
        elif kind == "slot":
            self._add_slot("load", expression[1])
        elif kind == "inputs":
            self._add("load", FIXED, COUNTED)
        elif kind == "op":
            self._add_op(expression, free)
        elif kind == "and":
            self._add_joined(expression, free, "zero", 0)
        elif kind == "or":
            self._add_joined(expression, free, "some", 1)
        elif kind == "call":
            self._add_call(expression, free)
        else:
            # All others have one expression, at their end.
            self._add_value(expression[-1], free)
            self._add_made_of_value(expression)

    def _add_number(self, number):
        if number > MOST_SHORT:
            self._add("load", ("number", number), 0)
        else:
            self._add("lit", FIXED, number)

    def _add_made_of_value(self, expression):
        """Adds what makes the value of not, at or input of that of the expression in it."""
        kind = expression[0]
        if kind == "not":
            self._add("not", FIXED, 0)
            return
        self._add("tox", FIXED, 0)
        if kind == "at":
            self._add("bound", FIXED, self._sizes[expression[1]])
            self._add("loadx", ("table", expression[1]), 0)
        else:
            self._add("within", FIXED, COUNTED)
            self._add("loadx", FIXED, GIVEN)

    def _add_op(self, expression, free):
        _, sign, left, right = expression
        self._add_value(left, free)
        if right[0] == "number":
            self._add(sign, ("number", right[1]), 0)
        elif right[0] == "slot":
            self._add_slot(sign, right[1])
        else:
            self._add_temporary("store", free)
            self._add_value(right, free + 1)
            self._add_temporary("store", free + 1)
            self._add_temporary("load", free)
            self._add_temporary(sign, free + 1)

    def _add_joined(self, expression, free, leaves, result):
        """Adds the code of and or of or: both sides are left by this jump, with this result."""
        _, left, right = expression
        self._add_value(left, free)
        behind_left = self._add_jump_ahead(leaves)
        self._add_value(right, free)
        behind_right = self._add_jump_ahead(leaves)
        self._add("lit", FIXED, 1 - result)
        past_result = self._add_jump_ahead("jump")
        self._land(behind_left)
        self._land(behind_right)
        self._add("lit", FIXED, result)
        self._land(past_result)

    def _add_call(self, expression, free):
        """Adds the code of a call or a do."""
        _, function, args = expression
        slots = ("slots", function)
        last = len(args) - 1
        for number, arg in enumerate(args):
            self._add_value(arg, free + number)
            if number < last:
                # Not yet to its slot: an arg behind it may call the same function.
                self._add_temporary("store", free + number)
            else:
                self._add("store", slots, number)
        for number in range(last):
            self._add_temporary("load", free + number)
            self._add("store", slots, number)
        self._add("call", ("return", function), 0)
        # For the two instructions at the end of a function, which belong to no statement.
        self._weight = self._weight + 2
