"""Source trees for the tests: drawn ones, what makes a value one, and texts of them that are laid out anyhow.

All of this is made from the words of points 502 to 505, without the program.
"""

LETTERS = "abcdefghijklmnopqrstuvwxyzABCDEFGHIJKLMNOPQRSTUVWXYZ"
DIGITS = "0123456789"
KEYWORDS = (
    "and do else end give if input inputs let main mod not or table tell to while"
).split(" ")
COMPARISONS = ("==", "!=", "<", "<=", ">", ">=")
SIGNS = ("+", "-", "*", "/", "mod") + COMPARISONS
RANK_OF = dict(
    [("or", 1), ("and", 2)] + [(sign, 4) for sign in COMPARISONS]
    + [("+", 5), ("-", 5), ("*", 6), ("/", 6), ("mod", 6)])
NAMES = ("a", "b", "k", "n", "x1", "Sum", "z", "t", "abcdefghijkl", "A9", "whiles", "i", "f", "inputz")


# What makes a value a source tree.

class No(Exception):
    """The value is none."""


def holds(test):
    if not test:
        raise No


def is_source(value):
    try:
        holds(type(value) is tuple and len(value) == 4)
        holds(type(value[0]) is str and value[0] == "program")
        for row, most in ((value[1], 8), (value[2], 8)):
            holds(type(row) is tuple and len(row) <= most)
        for table in value[1]:
            holds(type(table) is tuple and len(table) == 2)
            name_holds(table[0])
            holds(type(table[1]) is int and table[1] in range(1, 65))
        for function in value[2]:
            holds(type(function) is tuple and len(function) == 3)
            name_holds(function[0])
            holds(type(function[1]) is tuple and len(function[1]) <= 4)
            for param in function[1]:
                name_holds(param)
            body_holds(function[2], 1)
        body_holds(value[3], 1)
    except No:
        return False
    return True


def name_holds(value):
    holds(type(value) is str and 1 <= len(value) <= 12)
    holds(all(sign in LETTERS + DIGITS for sign in value))
    holds(value[0] in LETTERS and value not in KEYWORDS)


def body_holds(value, depth):
    holds(type(value) is tuple)
    for statement in value:
        holds(depth <= 12)
        holds(type(statement) is tuple and len(statement) > 0 and type(statement[0]) is str)
        form = {
            "let": "ne", "set": "ne", "put": "nee", "if": "ebb", "while": "eb", "tell": "e", "give": "e", "do": "na",
        }.get(statement[0])
        parts_hold(statement, form, depth)


def expression_holds(value, depth):
    holds(depth <= 12)
    holds(type(value) is tuple and len(value) > 0 and type(value[0]) is str)
    form = {
        "or": "ee", "and": "ee", "not": "e", "op": "see", "number": "w", "name": "n", "inputs": "", "at": "ne",
        "call": "na", "input": "e",
    }.get(value[0])
    parts_hold(value, form, depth)


def parts_hold(value, form, depth):
    holds(form is not None and len(value) == 1 + len(form))
    for part, kind in zip(value[1:], form):
        if kind == "n":
            name_holds(part)
        elif kind == "e":
            expression_holds(part, depth + 1)
        elif kind == "b":
            body_holds(part, depth + 1)
        elif kind == "w":
            holds(type(part) is int and 0 <= part <= 65535)
        elif kind == "s":
            holds(type(part) is str and part in SIGNS)
        else:
            holds(type(part) is tuple and len(part) <= 4)
            for arg in part:
                expression_holds(arg, depth + 1)


# Drawn source trees. Their names follow no rules.

def drawn_expression(drawn, room):
    """An expression with at most so many levels."""
    leaf = room <= 1 or drawn.random() < 0.2
    kind = drawn.choice(
        ("number", "name", "inputs") if leaf else ("or", "and", "not", "op", "op", "op", "at", "call", "input"))
    if kind == "number":
        return ("number", drawn.choice((0, 1, 2, 7, 1023, 1024, 65535, drawn.randint(0, 65535))))
    if kind == "name":
        return ("name", drawn.choice(NAMES))
    if kind == "inputs":
        return ("inputs",)
    if kind in ("or", "and"):
        return (kind, drawn_expression(drawn, room - 1), drawn_expression(drawn, room - 1))
    if kind in ("not", "input"):
        return (kind, drawn_expression(drawn, room - 1))
    if kind == "op":
        return ("op", drawn.choice(SIGNS), drawn_expression(drawn, room - 1), drawn_expression(drawn, room - 1))
    if kind == "at":
        return ("at", drawn.choice(NAMES), drawn_expression(drawn, room - 1))
    return ("call", drawn.choice(NAMES), drawn_args(drawn, room - 1))


def drawn_args(drawn, room):
    return tuple(drawn_expression(drawn, room) for _ in range(drawn.randint(0, 4) if room > 0 else 0))


def drawn_body(drawn, room, many=3):
    if room < 1:
        return ()
    return tuple(drawn_statement(drawn, room) for _ in range(drawn.randint(0, many)))


def drawn_statement(drawn, room):
    kinds = ("let", "set", "put", "if", "while", "tell", "give", "do")
    kind = drawn.choice(kinds if room > 1 else ("do",))
    name = drawn.choice(NAMES)
    few = min(room - 1, drawn.randint(1, 5))
    if kind in ("let", "set"):
        return (kind, name, drawn_expression(drawn, few))
    if kind == "put":
        return (kind, name, drawn_expression(drawn, few), drawn_expression(drawn, few))
    if kind == "if":
        return (kind, drawn_expression(drawn, few), drawn_body(drawn, room - 1, 2), drawn_body(drawn, room - 1, 1))
    if kind == "while":
        return (kind, drawn_expression(drawn, few), drawn_body(drawn, room - 1, 2))
    if kind in ("tell", "give"):
        return (kind, drawn_expression(drawn, few))
    return (kind, name, drawn_args(drawn, few))


def drawn_tree(drawn):
    tables = tuple((drawn.choice(NAMES), drawn.randint(1, 64)) for _ in range(drawn.randint(0, 3)))
    functions = []
    for _ in range(drawn.randint(0, 3)):
        params = tuple(drawn.choice(NAMES) for _ in range(drawn.randint(0, 4)))
        functions.append((drawn.choice(NAMES), params, drawn_body(drawn, drawn.randint(1, 6))))
    return ("program", tables, tuple(functions), drawn_body(drawn, drawn.randint(1, 7), 5))


# Values beside a tree, each with one part changed.

STRANGE = (
    True, False, None, -1, 0, 1, 65, 65536, "", "end", "1a", "a_b", "abcdefghijklm", "k", "+", "slot", (), [], {}, 1.0,
    b"k", ("number", 1), ("slot", 0), ("name", "k"), ("tell", ("number", 1)), object,
)


def changed(value):
    """All values that differ from a tree at one place, of any depth."""
    if isinstance(value, tuple):
        yield list(value)
        yield value + (value,)
        for place, part in enumerate(value):
            yield value[:place] + value[place + 1:]
            yield value[:place] + (part,) + value[place:]
            for other in changed(part):
                yield value[:place] + (other,) + value[place + 1:]
    else:
        yield (value,)
    for strange in STRANGE:
        if type(strange) is not type(value) or strange != value:
            yield strange


# Texts of source trees, laid out anyhow.

def rank(e):
    if e[0] == "op":
        return RANK_OF[e[1]]
    return {"or": 1, "and": 2, "not": 3}.get(e[0], 7)


class Layout:
    """Lays a tree out with more spaces, brackets, comments and empty lines than it needs, or with fewer."""

    def __init__(self, drawn, more):
        self.drawn = drawn
        self.more = more

    def often(self):
        return self.drawn.random() < self.more

    def tokens(self, e, least):
        kind = e[0]
        if kind in ("number", "name"):
            found = [str(e[1])]
        elif kind == "inputs":
            found = ["inputs"]
        elif kind == "input":
            found = ["input", "("] + self.tokens(e[1], 1) + [")"]
        elif kind == "at":
            found = [e[1], "["] + self.tokens(e[2], 1) + ["]"]
        elif kind == "call":
            found = [e[1]] + self.listed([self.tokens(arg, 1) for arg in e[2]])
        elif kind == "not":
            found = ["not"] + self.tokens(e[1], 3)
        else:
            sides = (5, 5) if rank(e) == 4 else (rank(e), rank(e) + 1)
            sign = e[1] if kind == "op" else kind
            found = self.tokens(e[-2], sides[0]) + [sign] + self.tokens(e[-1], sides[1])
        if rank(e) < least or self.often():
            return ["("] + found + [")"]
        return found

    def listed(self, items):
        found = ["("]
        for place, item in enumerate(items):
            found += ([","] if place > 0 else []) + item
        return found + [")"]

    def line(self, tokens):
        text = " " * self.drawn.randint(0, 3)
        for place, token in enumerate(tokens):
            # Two words or numbers must not run into each other; nor may two signs that form one.
            meet = place > 0 and text[-1:].isalnum() and token[0].isalnum()
            text += " " * (self.drawn.randint(1, 3) if meet else self.drawn.randint(0, 2) if self.often() else 0)
            text += token
        return text + self.tail()

    def tail(self):
        return self.drawn.choice(("", "", " ", "   ", "#", " # end", "# if ( ]= ~!@$^&*_{}|\\\"'`?:;.<>"))

    def body(self, body):
        lines = []
        for s in body:
            while self.often():
                lines.append(self.drawn.choice(("", " ", "     ", "# main", "  ##")))
            lines += self.statement(s)
        return lines

    def statement(self, s):
        kind = s[0]
        if kind == "let":
            return [self.line(["let", s[1], "="] + self.tokens(s[2], 1))]
        if kind == "set":
            return [self.line([s[1], "="] + self.tokens(s[2], 1))]
        if kind == "put":
            return [self.line([s[1], "["] + self.tokens(s[2], 1) + ["]", "="] + self.tokens(s[3], 1))]
        if kind in ("tell", "give"):
            return [self.line([kind] + self.tokens(s[1], 1))]
        if kind == "do":
            return [self.line(["do", s[1]] + self.listed([self.tokens(arg, 1) for arg in s[2]]))]
        lines = [self.line([kind] + self.tokens(s[1], 1))] + self.body(s[2])
        if kind == "if" and (s[3] or self.often()):
            lines += [self.line(["else"])] + self.body(s[3])
        return lines + [self.line(["end"])]

    def text(self, tree):
        lines = [self.line(["table", name, str(size)]) for name, size in tree[1]]
        for name, params, body in tree[2]:
            lines += [self.line(["to", name] + self.listed([[param] for param in params]))]
            lines += self.body(body) + [self.line(["end"])]
        lines += [self.line(["main"])] + self.body(tree[3]) + [self.line(["end"])]
        return "\n".join(lines) + self.drawn.choice(("", "\n", "\n\n# \n"))


def most_open(text):
    """The greatest number of brackets that are open at any place of a line."""
    most = 0
    for line in text.split("\n"):
        many = 0
        for sign in line.partition("#")[0]:
            many += (sign in "([") - (sign in ")]")
            most = max(most, many)
    return most
