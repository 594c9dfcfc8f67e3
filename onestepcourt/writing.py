"""Writing: from a source tree to a text."""

from onestepcourt.errors import BadTree
from onestepcourt.forms import ATOM, COMPARED, LEAST, NEGATED, RANKS, is_tree


def write(tree):
    """Returns the text of a source tree, or raises BadTree."""
    if not is_tree(tree):
        raise BadTree()
    _, tables, functions, main = tree
    lines = [f"table {name} {size}" for name, size in tables]
    for name, params, body in functions:
        lines.append("to " + name + "(" + ", ".join(params) + ")")
        lines.extend(indented(body))
        lines.append("end")
    lines.append("main")
    lines.extend(indented(main))
    lines.append("end")
    return "".join([line + "\n" for line in lines])


def indented(body):
    """Returns the lines of a body, as they stand in what is around it."""
    lines = []
    for statement in body:
        lines.extend(["  " + line for line in lines_of(statement)])
    return lines


def lines_of(statement):
    """Returns the lines of a statement."""
    kind = statement[0]
    if kind in ("tell", "give"):
        return [f"{kind} {text_of(statement[1], LEAST)}"]
    if kind == "let":
        return [f"let {statement[1]} = {text_of(statement[2], LEAST)}"]
    if kind == "set":
        return [f"{statement[1]} = {text_of(statement[2], LEAST)}"]
    if kind == "put":
        return [f"{statement[1]}[{text_of(statement[2], LEAST)}] = {text_of(statement[3], LEAST)}"]
    if kind == "do":
        return [f"do {statement[1]}({args_of(statement[2])})"]
    lines = [f"{kind} {text_of(statement[1], LEAST)}"] + indented(statement[2])
    if kind == "if" and len(statement[3]) > 0:
        lines = lines + ["else"] + indented(statement[3])
    return lines + ["end"]


def text_of(e, least):
    """Returns the text of an expression where one of at least this rank is due."""
    text = plain_text_of(e)
    return f"({text})" if rank_of(e) < least else text


def rank_of(e):
    """Returns the rank of an expression."""
    if e[0] == "op":
        return RANKS[e[1]]
    if e[0] == "not":
        return NEGATED
    return RANKS.get(e[0], ATOM)


def plain_text_of(e):
    """Returns the text of an expression without brackets around it."""
    kind = e[0]
    if kind in ("number", "name"):
        return str(e[1])
    if kind == "inputs":
        return "inputs"
    if kind == "input":
        return f"input({text_of(e[1], LEAST)})"
    if kind == "at":
        return f"{e[1]}[{text_of(e[2], LEAST)}]"
    if kind == "call":
        return f"{e[1]}({args_of(e[2])})"
    if kind == "not":
        return "not " + text_of(e[1], NEGATED)
    sign = e[1] if kind == "op" else kind
    rank = rank_of(e)
    left = rank + 1 if rank == COMPARED else rank
    return f"{text_of(e[-2], left)} {sign} {text_of(e[-1], rank + 1)}"


def args_of(args):
    """Returns the text of args."""
    return ", ".join([text_of(arg, LEAST) for arg in args])
