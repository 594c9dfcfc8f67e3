"""Resolving: what the names in a program stand for, and the rules that they follow."""

from onestepcourt.errors import BadProgram
from onestepcourt.forms import EXPRESSIONS, STATEMENTS


def resolved(tables, functions, main):
    """Returns the checked tree of a program, or raises BadProgram if it breaks a rule.

    tables are pairs (name, size), functions are triples (name, params, body), and main is a body. The numbers of a
    checked tree may stand for the names: then each one is resolved as if it were a name.
    """
    table_places = places_of([name for name, size in tables])
    # What a function may call is what stands above it; so this grows from one to the next.
    above = {}
    made = []
    for place, (name, params, body) in enumerate(functions):
        made.append(Resolver(table_places, above, True).part(params, body))
        if name in above:
            raise BadProgram("two functions have the same name")
        above[name] = (place, len(params))
    made_main = Resolver(table_places, above, False).part((), main)
    return ("checked", tuple([size for name, size in tables]), tuple(made), made_main)


def places_of(names):
    """Returns a dict of the places of names, which must differ."""
    places = {}
    for place, name in enumerate(names):
        if name in places:
            raise BadProgram("two tables, or two params, have the same name")
        places[name] = place
    return places


def meant(known, name):
    """Returns what a name stands for."""
    if name not in known:
        raise BadProgram("a name stands for nothing here")
    return known[name]


class Resolver:
    """Resolves the names of one function, or of the main part, by the tables and the functions above it."""

    def __init__(self, tables, above, gives):
        self._tables = tables
        self._above = above
        self._gives = gives
        self._slots = 0

    def part(self, params, body):
        """Returns the number of params, the number of slots, and the body with numbers."""
        known = places_of(params)
        self._slots = len(params)
        made = self._body(body, known)
        return (len(params), self._slots, made)

    def _body(self, body, known):
        # A copy, so that the variables of this body are not open behind its end.
        inner = dict(known)
        made = []
        for statement in body:
            if statement[0] == "let":
                made.append(self._let(statement, inner))
            else:
                made.append(self._node(statement, STATEMENTS[statement[0]], inner))
        return tuple(made)

    def _let(self, statement, known):
        _, name, expression = statement
        # The expression comes first: in it, the variable is not open yet.
        value = self._item(expression, "expression", known)
        if name in known:
            raise BadProgram("a let names a variable that is open")
        known[name] = self._slots
        self._slots = self._slots + 1
        return ("let", known[name], value)

    def _node(self, node, parts, known):
        kind = node[0]
        if kind == "give" and not self._gives:
            raise BadProgram("there is a give in the main part")
        items = [self._item(item, part, known) for item, part in zip(node[1:], parts)]
        if kind in ("call", "do") and len(node[2]) != meant(self._above, node[1])[1]:
            raise BadProgram("a function has another number of params")
        return ("slot" if kind == "name" else kind,) + tuple(items)

    def _item(self, item, part, known):
        if part == "expression":
            return self._node(item, EXPRESSIONS[item[0]], known)
        if part == "body":
            return self._body(item, known)
        if part == "args":
            return tuple([self._item(arg, "expression", known) for arg in item])
        if part == "variable":
            return meant(known, item)
        if part == "table":
            return meant(self._tables, item)
        if part == "function":
            return meant(self._above, item)[0]
        return item
