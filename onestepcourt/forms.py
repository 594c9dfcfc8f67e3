"""The forms of names, statements and expressions, and of the trees that are made of them."""

from onestepcourt.digests import is_integer, is_word
from onestepcourt.limits import MOST_FUNCTIONS, MOST_NAME, MOST_NESTED, MOST_PARAMS, MOST_SIZE, MOST_TABLES
from onestepcourt.words import SIGNS

KEYWORDS = (
    "and", "do", "else", "end", "give", "if", "input", "inputs", "let", "main", "mod", "not", "or", "table", "tell",
    "to", "while",
)

# What follows the kind of a statement or an expression, item by item.
STATEMENTS = {
    "let": ("variable", "expression"),
    "set": ("variable", "expression"),
    "put": ("table", "expression", "expression"),
    "if": ("expression", "body", "body"),
    "while": ("expression", "body"),
    "tell": ("expression",),
    "give": ("expression",),
    "do": ("function", "args"),
}
# A variable is read by its name in source trees, and by its slot in checked trees.
EXPRESSIONS = {
    "or": ("expression", "expression"),
    "and": ("expression", "expression"),
    "not": ("expression",),
    "op": ("sign", "expression", "expression"),
    "number": ("word",),
    "name": ("variable",),
    "slot": ("variable",),
    "inputs": (),
    "at": ("table", "expression"),
    "call": ("function", "args"),
    "input": ("expression",),
}

# The ranks of expressions: the least one, that of not, that of comparisons, and the greatest one.
LEAST = 1
NEGATED = 3
COMPARED = 4
ATOM = 7

# The ranks of all that stands between two expressions.
RANKS = {
    "or": 1, "and": 2, "==": 4, "!=": 4, "<": 4, "<=": 4, ">": 4, ">=": 4, "+": 5, "-": 5, "*": 6, "/": 6, "mod": 6,
}


def is_name(value):
    """Tells whether a value is a name."""
    if not isinstance(value, str) or not value.isascii() or not value.isalnum():
        return False
    return not value[0].isdigit() and len(value) <= MOST_NAME and value not in KEYWORDS


def is_count(value):
    """Tells whether a value is an integer from 0 on."""
    return isinstance(value, int) and not isinstance(value, bool) and value >= 0


def is_tuple(value, many):
    """Tells whether a value is a tuple of so many items."""
    return isinstance(value, tuple) and len(value) == many


def is_row(value, most, is_item):
    """Tells whether a value is a tuple of at most so many items of a kind."""
    return isinstance(value, tuple) and len(value) <= most and all([is_item(item) for item in value])


def is_whole(value, kind):
    """Tells whether a value is a tuple of this kind with three more items."""
    # Other values than strings are not compared: their own comparison may do anything.
    return is_tuple(value, 4) and isinstance(value[0], str) and value[0] == kind


def is_tree(value):
    """Tells whether a value is a source tree."""
    if not is_whole(value, "program"):
        return False
    _, tables, functions, main = value
    if not is_row(tables, MOST_TABLES, is_table) or not is_row(functions, MOST_FUNCTIONS, is_function):
        return False
    return is_body(main, 1, True)


def is_table(value):
    """Tells whether a value is a table of a source tree."""
    return is_tuple(value, 2) and is_name(value[0]) and is_size(value[1])


def is_size(value):
    """Tells whether a value is the size of a table."""
    return is_integer(value, 1, MOST_SIZE)


def is_function(value):
    """Tells whether a value is a function of a source tree."""
    if not is_tuple(value, 3):
        return False
    name, params, body = value
    return is_name(name) and is_row(params, MOST_PARAMS, is_name) and is_body(body, 1, True)


def is_body(value, depth, named):
    """Tells whether a value is a body whose statements have this depth, with names or with numbers for them."""
    if not isinstance(value, tuple):
        return False
    for statement in value:
        if not has_kind(statement) or statement[0] not in STATEMENTS:
            return False
        if not has_parts(statement, STATEMENTS[statement[0]], depth, named):
            return False
    return True


def is_expression(value, depth, named):
    """Tells whether a value is an expression of this depth, with names or with numbers for them."""
    if not has_kind(value) or value[0] not in EXPRESSIONS:
        return False
    if value[0] == ("slot" if named else "name"):
        return False
    return has_parts(value, EXPRESSIONS[value[0]], depth, named)


def has_kind(value):
    """Tells whether a value is a tuple that begins with a string."""
    return isinstance(value, tuple) and len(value) > 0 and isinstance(value[0], str)


def has_parts(value, parts, depth, named):
    """Tells whether a statement or an expression of this depth has such parts behind its kind."""
    if depth > MOST_NESTED or len(value) != len(parts) + 1:
        return False
    for item, part in zip(value[1:], parts):
        if not is_part(item, part, depth, named):
            return False
    return True


def is_part(value, part, depth, named):
    """Tells whether a value is such a part of a statement or an expression of this depth."""
    if part == "expression":
        return is_expression(value, depth + 1, named)
    if part == "body":
        return is_body(value, depth + 1, named)
    if part == "args":
        return are_args(value, depth + 1, named)
    if part == "word":
        return is_word(value)
    if part == "sign":
        return isinstance(value, str) and value in SIGNS
    return is_name(value) if named else is_count(value)


def are_args(value, depth, named):
    """Tells whether a value is a tuple of args of this depth."""
    if not isinstance(value, tuple) or len(value) > MOST_PARAMS:
        return False
    return all([is_expression(arg, depth, named) for arg in value])
