"""Programs for the tests, and what the tests reckon of them on their own, from the words of parts 5 and 6."""

import itertools

import sources
from model import NUMBERS, code as word_of
from sources import No, holds

POOL = ("a", "b", "k", "n", "t", "f", "g")


# Drawn source trees that break no rule.

class Drawing:
    """Draws one program. many is about the number of its statements."""

    def __init__(self, drawn, many):
        self.drawn = drawn
        self.many = many
        self.tables = []
        self.above = []
        self.gives = False

    def program(self):
        names = self.drawn.sample(POOL, self.drawn.randint(0, 3))
        self.tables = [(name, self.drawn.choice((1, 2, 3, 5))) for name in names]
        functions = []
        for name in self.drawn.sample(POOL, self.drawn.randint(0, 3)):
            params = tuple(self.drawn.sample(POOL, self.drawn.choice((0, 1, 1, 2, 3, 4))))
            self.gives = True
            functions.append((name, params, self.body(list(params), 1, self.drawn.randint(0, 3))))
            self.above.append((name, len(params)))
        self.gives = False
        return ("program", tuple(self.tables), tuple(functions), self.body([], 1, self.many))

    def body(self, known, depth, many):
        known = list(known)
        made = []
        for _ in range(many):
            made.append(self.statement(known, depth))
        return tuple(made)

    def statement(self, known, depth):
        free = [name for name in POOL if name not in known]
        kinds = ["tell", "tell", "tell"]
        kinds += ["let", "let"] if free else []
        kinds += ["set", "set"] if known else []
        kinds += ["put", "put"] if self.tables else []
        kinds += ["if", "while", "if"] if depth < 4 else []
        kinds += ["loop"] if depth < 3 and free else []
        kinds += ["give"] if self.gives else []
        kinds += ["do"] if self.above else []
        kind = self.drawn.choice(kinds)
        if kind == "loop":
            return self.loop(known, depth, free)
        if kind == "let":
            name = self.drawn.choice(free)
            made = ("let", name, self.expression(known, 3))
            known.append(name)
            return made
        if kind == "set":
            return ("set", self.drawn.choice(known), self.expression(known, 3))
        if kind == "put":
            return ("put", self.drawn.choice(self.tables)[0], self.place(known, 2), self.expression(known, 2))
        if kind == "if":
            return ("if", self.expression(known, 2), self.body(known, depth + 1, self.drawn.randint(0, 2)),
                    self.body(known, depth + 1, self.drawn.choice((0, 0, 1, 2))))
        if kind == "while":
            return ("while", self.expression(known, 2), self.body(known, depth + 1, self.drawn.randint(0, 2)))
        if kind == "do":
            return ("do",) + self.called(known, 2)
        return (kind, self.expression(known, 3))

    def loop(self, known, depth, free):
        """An if around a loop with a counter, so that runs come to their end."""
        name = self.drawn.choice(free)
        counter = ("name", name)
        inner = known + [name]
        body = self.body(inner, depth + 2, self.drawn.randint(0, 2))
        step = ("set", name, ("op", "+", counter, ("number", 1)))
        test = ("op", "<", counter, self.drawn.choice((("number", 3), ("inputs",), ("number", 20))))
        return ("if", ("number", 1), (("let", name, ("number", 0)), ("while", test, body + (step,))), ())

    def called(self, known, room):
        name, params = self.drawn.choice(self.above)
        return (name, tuple(self.expression(known, room - 1) for _ in range(params)))

    def place(self, known, room):
        return self.drawn.choice((("number", 0), ("number", self.drawn.randint(0, 3)), self.expression(known, room)))

    def expression(self, known, room):
        kinds = ["number", "inputs", "number"]
        kinds += ["name"] * 4 if known else []
        if room > 0:
            kinds += ["or", "and", "not", "op", "op", "op", "op", "input"]
            kinds += ["at", "at"] if self.tables else []
            kinds += ["call", "call"] if self.above else []
        kind = self.drawn.choice(kinds)
        if kind == "number":
            return ("number", self.drawn.choice((0, 1, 1, 2, 3, 5, 1023, 1024, 65535)))
        if kind == "name":
            return ("name", self.drawn.choice(known))
        if kind == "inputs":
            return ("inputs",)
        if kind in ("or", "and"):
            return (kind, self.expression(known, room - 1), self.expression(known, room - 1))
        if kind == "not":
            return (kind, self.expression(known, room - 1))
        if kind == "input":
            return (kind, self.place(known, room - 1))
        if kind == "op":
            sign = self.drawn.choice(sources.SIGNS)
            return (kind, sign, self.expression(known, room - 1), self.expression(known, room - 1))
        if kind == "at":
            return (kind, self.drawn.choice(self.tables)[0], self.place(known, room - 1))
        return ("call",) + self.called(known, room)


def drawn_program(drawn, many=5):
    return Drawing(drawn, many).program()


# The checked tree of a source tree, and what makes a value a checked tree.

PARTS = {
    "let": "ve", "set": "ve", "put": "tee", "if": "ebb", "while": "eb", "tell": "e", "give": "e", "do": "fa",
    "or": "ee", "and": "ee", "not": "e", "op": "see", "number": "w", "name": "v", "slot": "v", "inputs": "", "at": "te",
    "call": "fa", "input": "e",
}
BODIES = ("let", "set", "put", "if", "while", "tell", "give", "do")


class Reference:
    """Goes through a function or the main part, and raises No where a rule is broken."""

    def __init__(self, tables, functions, is_main):
        self.tables = tables
        self.functions = functions
        self.is_main = is_main
        self.slots = itertools.count()

    def go(self, params, body):
        known = [[]]
        for param in params:
            holds(all(name != param for name, slot in known[0]))
            known[0].append((param, next(self.slots)))
        made = self.body(body, known)
        return (len(params), next(self.slots), made)

    def slot(self, name, known):
        found = [slot for level in known for other, slot in level if other == name]
        holds(len(found) == 1)
        return found[0]

    def body(self, body, known):
        known = known + [[]]
        made = []
        for statement in body:
            if statement[0] == "let":
                value = self.node(statement[2], known)
                holds(not any(name == statement[1] for level in known for name, slot in level))
                known[-1].append((statement[1], next(self.slots)))
                made.append(("let", known[-1][-1][1], value))
            else:
                holds(statement[0] != "give" or not self.is_main)
                made.append(self.node(statement, known))
        return tuple(made)

    def node(self, node, known):
        found = ["slot" if node[0] == "name" else node[0]]
        for kind, part in zip(PARTS[node[0]], node[1:]):
            if kind == "e":
                found.append(self.node(part, known))
            elif kind == "b":
                found.append(self.body(part, known))
            elif kind == "a":
                names = [name for name, params in self.functions]
                holds(len(part) == self.functions[names.index(node[1])][1])
                found.append(tuple(self.node(arg, known) for arg in part))
            elif kind == "v":
                found.append(self.slot(part, known))
            elif kind == "t":
                holds(part in self.tables)
                found.append(self.tables.index(part))
            elif kind == "f":
                names = [name for name, params in self.functions]
                holds(part in names)
                found.append(names.index(part))
            else:
                found.append(part)
        return tuple(found)


def checked_of(tree):
    """The checked tree of a source tree, or None if it breaks a rule."""
    try:
        tables = [name for name, size in tree[1]]
        holds(len(set(tables)) == len(tables))
        above, made = [], []
        for name, params, body in tree[2]:
            made.append(Reference(tables, list(above), False).go(params, body))
            holds(name not in [other for other, many in above])
            above.append((name, len(params)))
        main = Reference(tables, above, True).go((), tree[3])
    except No:
        return None
    return ("checked", tuple(size for name, size in tree[1]), tuple(made), main)


def integer(value, least, greatest):
    return type(value) is int and least <= value <= greatest


class Walk:
    """Goes through a part of a value that may be a checked tree, and raises No where it cannot be one."""

    def __init__(self, value, sizes, above, is_main):
        holds(type(value) is tuple and len(value) == 3)
        params, slots, body = value
        holds(integer(params, 0, 0 if is_main else 4))
        self.sizes, self.above, self.is_main = sizes, above, is_main
        self.next = params
        self.body(body, list(range(params)), 1)
        holds(type(slots) is int and slots == self.next)

    def body(self, body, known, depth):
        holds(type(body) is tuple)
        known = list(known)
        for statement in body:
            holds(type(statement) is tuple and len(statement) > 0 and type(statement[0]) is str)
            holds(statement[0] in BODIES and depth <= 12)
            if statement[0] == "let":
                holds(len(statement) == 3)
                self.expression(statement[2], known, depth + 1)
                holds(type(statement[1]) is int and statement[1] == self.next)
                known.append(self.next)
                self.next += 1
            else:
                holds(statement[0] != "give" or not self.is_main)
                self.parts(statement, known, depth)

    def expression(self, value, known, depth):
        holds(type(value) is tuple and len(value) > 0 and type(value[0]) is str)
        holds(value[0] in PARTS and value[0] not in BODIES and value[0] != "name" and depth <= 12)
        self.parts(value, known, depth)

    def parts(self, value, known, depth):
        form = PARTS[value[0]]
        holds(len(value) == len(form) + 1)
        for kind, part in zip(form, value[1:]):
            if kind == "e":
                self.expression(part, known, depth + 1)
            elif kind == "b":
                self.body(part, known, depth + 1)
            elif kind == "v":
                holds(type(part) is int and part in known)
            elif kind == "t":
                holds(integer(part, 0, len(self.sizes) - 1))
            elif kind == "f":
                holds(integer(part, 0, len(self.above) - 1))
            elif kind == "w":
                holds(integer(part, 0, 65535))
            elif kind == "s":
                holds(type(part) is str and part in sources.SIGNS)
            else:
                holds(type(part) is tuple and len(part) == self.above[value[1]])
                for arg in part:
                    self.expression(arg, known, depth + 1)


def is_right(value):
    """Tells whether a value is a checked tree."""
    try:
        holds(type(value) is tuple and len(value) == 4 and type(value[0]) is str and value[0] == "checked")
        sizes, functions, main = value[1:]
        holds(type(sizes) is tuple and len(sizes) <= 8 and all(integer(size, 1, 64) for size in sizes))
        holds(type(functions) is tuple and len(functions) <= 8)
        above = []
        for function in functions:
            Walk(function, sizes, above, False)
            above.append(function[0])
        Walk(main, sizes, above, True)
    except No:
        return False
    return True


# The plain reading.

class End(Exception):
    """The end of a run, with its mark."""


class Gift(Exception):
    """What a give gives."""


class Reading:
    def __init__(self, checked, inputs, units):
        self.functions, self.inputs, self.units = checked[2], inputs, units
        self.tables = {(k, place): 0 for k, size in enumerate(checked[1]) for place in range(size)}
        self.told = []
        self.used = 0
        try:
            self.body(checked[3][2], {})
            self.mark = "done"
        except End as end:
            self.mark = str(end)

    def use(self):
        if self.used == self.units:
            raise End("long")
        self.used += 1

    def body(self, body, slots):
        for statement in body:
            self.use()
            getattr(self, "do_" + statement[0])(slots, *statement[1:])

    def do_let(self, slots, slot, e):
        slots[slot] = self.value(e, slots)

    do_set = do_let

    def do_put(self, slots, table, e, f):
        key = (table, self.value(e, slots))
        value = self.value(f, slots)
        if key not in self.tables:
            raise End("place")
        self.tables[key] = value

    def do_if(self, slots, e, body, other):
        self.body(body if self.value(e, slots) else other, slots)

    def do_while(self, slots, e, body):
        while self.value(e, slots):
            self.use()
            self.body(body, slots)

    def do_tell(self, slots, e):
        value = self.value(e, slots)
        if len(self.told) >= 16:
            raise End("full")
        self.told.append(value)

    def do_give(self, slots, e):
        raise Gift(self.value(e, slots))

    def do_do(self, slots, g, args):
        self.call(g, [self.value(arg, slots) for arg in args])

    def call(self, g, values):
        try:
            self.body(self.functions[g][2], dict(enumerate(values)))
        except Gift as gift:
            return gift.args[0]
        return 0

    def value(self, e, slots):
        kind = e[0]
        if kind == "number":
            return e[1]
        if kind == "slot":
            return slots[e[1]]
        if kind == "inputs":
            return len(self.inputs)
        if kind == "or":
            return int(bool(self.value(e[1], slots) or self.value(e[2], slots)))
        if kind == "and":
            return int(bool(self.value(e[1], slots) and self.value(e[2], slots)))
        if kind == "call":
            return self.call(e[1], [self.value(arg, slots) for arg in e[2]])
        if kind == "op":
            a, b = self.value(e[2], slots), self.value(e[3], slots)
            if e[1] in ("/", "mod") and b == 0:
                raise End("divided")
            return {
                "+": lambda: (a + b) & 65535, "-": lambda: (a - b) & 65535, "*": lambda: (a * b) & 65535,
                "/": lambda: a // b, "mod": lambda: a % b, "==": lambda: int(a == b), "!=": lambda: int(a != b),
                "<": lambda: int(a < b), "<=": lambda: int(a <= b), ">": lambda: int(a > b), ">=": lambda: int(a >= b),
            }[e[1]]()
        place = self.value(e[-1], slots)
        if kind == "not":
            return int(place == 0)
        if kind == "input":
            if place >= len(self.inputs):
                raise End("input")
            return self.inputs[place]
        if (e[1], place) not in self.tables:
            raise End("place")
        return self.tables[(e[1], place)]


def plain_of(checked, inputs, units):
    reading = Reading(checked, inputs, units)
    return (tuple(reading.told), reading.mark)


# The image, from the tables of points 601 to 604. Code is a list of labels and of pairs of a name and an operand:
# a number, a label, or a tuple that says what place it is.

class Label:
    """A place in code."""


class Coder:
    def __init__(self, part, sizes):
        self.part, self.sizes = part, sizes

    def s(self, slot):
        return ("S", self.part, slot)

    def t(self, number):
        return ("T", self.part, number)

    def value(self, e, t):
        kind = e[0]
        if kind == "number":
            return [("lit", e[1])] if e[1] <= 1023 else [("load", ("C", e[1]))]
        if kind == "slot":
            return [("load", self.s(e[1]))]
        if kind == "inputs":
            return [("load", 239)]
        if kind == "at":
            return self.value(e[2], t) + [("tox", 0), ("bound", self.sizes[e[1]]), ("loadx", ("B", e[1]))]
        if kind == "input":
            return self.value(e[1], t) + [("tox", 0), ("within", 239), ("loadx", 240)]
        if kind == "not":
            return self.value(e[1], t) + [("not", 0)]
        if kind == "op" and e[3][0] == "number":
            return self.value(e[2], t) + [(e[1], ("C", e[3][1]))]
        if kind == "op" and e[3][0] == "slot":
            return self.value(e[2], t) + [(e[1], self.s(e[3][1]))]
        if kind == "op":
            return (self.value(e[2], t) + [("store", self.t(t))] + self.value(e[3], t + 1)
                    + [("store", self.t(t + 1)), ("load", self.t(t)), (e[1], self.t(t + 1))])
        if kind == "call":
            return self.call(e[1], e[2], t)
        jump, then, past = ("zero", 1, 0) if kind == "and" else ("some", 0, 1)
        one, two = Label(), Label()
        return (self.value(e[1], t) + [(jump, one)] + self.value(e[2], t) + [(jump, one)]
                + [("lit", then), ("jump", two), one, ("lit", past), two])

    def call(self, g, args, t):
        found = []
        for i, arg in enumerate(args):
            found += self.value(arg, t + i)
            found += [("store", self.t(t + i) if i + 1 < len(args) else ("S", g, i))]
        for i in range(0, len(args) - 1):
            found += [("load", self.t(t + i)), ("store", ("S", g, i))]
        return found + [("call", ("R", g))]

    def statement(self, s):
        kind = s[0]
        one, two = Label(), Label()
        if kind in ("let", "set"):
            return self.value(s[2], 0) + [("store", self.s(s[1]))]
        if kind == "put":
            return (self.value(s[2], 0) + [("store", self.t(0))] + self.value(s[3], 1)
                    + [("index", self.t(0)), ("bound", self.sizes[s[1]]), ("storex", ("B", s[1]))])
        if kind == "if" and s[3] == ():
            return self.value(s[1], 0) + [("zero", one)] + self.body(s[2]) + [one]
        if kind == "if":
            return (self.value(s[1], 0) + [("zero", one)] + self.body(s[2]) + [("jump", two), one] + self.body(s[3])
                    + [two])
        if kind == "while":
            return [one] + self.value(s[1], 0) + [("zero", two)] + self.body(s[2]) + [("jump", one), two]
        if kind == "tell":
            return self.value(s[1], 0) + [("tell", 0)]
        if kind == "give":
            return self.value(s[1], 0) + [("back", ("R", self.part))]
        return self.call(s[1], s[2], 0)

    def body(self, body):
        return [row for s in body for row in self.statement(s)]

    def paces(self, body):
        for s in body:
            inner = [part for part, kind in zip(s[1:], PARTS[s[0]]) if kind == "b"]
            weight = length(self.statement(s)) - sum(length(self.body(part)) for part in inner)
            rest = [part for part, kind in zip(s[1:], PARTS[s[0]]) if kind in "ea"]
            yield weight + 2 * (calls_in(rest) + (s[0] == "do"))
            for part in inner:
                yield from self.paces(part)


def length(rows):
    return sum(type(row) is tuple for row in rows)


def calls_in(value):
    """The number of calls anywhere in expressions."""
    if not isinstance(value, (tuple, list)):
        return 0
    return (len(value) > 0 and value[0] == "call") + sum(calls_in(part) for part in value)


def image_of(checked):
    """The image, however long, and the pace."""
    sizes, functions, main = checked[1:]
    coders = [Coder(part, sizes) for part in range(len(functions) + 1)]
    rows = coders[-1].body(main[2]) + [("halt", 0)]
    paces = list(coders[-1].paces(main[2]))
    places = {}
    for part, function in enumerate(functions):
        rows += [("R", part)] + coders[part].body(function[2]) + [("lit", 0), ("back", ("R", part))]
        paces += list(coders[part].paces(function[2]))
    named = {row[1] for row in rows if type(row) is tuple and type(row[1]) is tuple}
    rows += [("C", n) for n in sorted(operand[1] for operand in named if operand[0] == "C")]
    for part, function in enumerate(functions + (main,)):
        rows += [("S", part, slot) for slot in range(function[1])]
        rows += [("T", part, t) for t in sorted(operand[2] for operand in named if operand[:2] == ("T", part))]
    for table, size in enumerate(sizes):
        rows += [("B", table)] + [("zero word", 0)] * (size - 1)
    at = 0
    for row in rows:
        places[row] = at
        at += type(row) is tuple
    words = []
    for row in rows:
        if type(row) is tuple and row[0] in NUMBERS:
            operand = row[1]
            words.append(word_of(row[0], operand if type(operand) is int else places[operand]))
        elif type(row) is tuple:
            words.append(row[1] if row[0] == "C" else 0)
    return tuple(words), max(paces + [1])
