"""Meaning: from source trees to checked trees, and back."""

from onestepcourt.checked import is_checked
from onestepcourt.errors import BadTree
from onestepcourt.forms import EXPRESSIONS, STATEMENTS, is_tree
from onestepcourt.resolving import resolved


def check(tree):
    """Returns the checked tree of a source tree; raises BadTree or BadProgram."""
    if not is_tree(tree):
        raise BadTree()
    _, tables, functions, main = tree
    return resolved(tables, functions, main)


def source(value):
    """Returns a source tree of a checked tree, or raises BadTree."""
    if not is_checked(value):
        raise BadTree()
    _, sizes, functions, main = value
    tables = tuple([(f"t{place}", size) for place, size in enumerate(sizes)])
    named_functions = []
    for place, (params, slots, body) in enumerate(functions):
        names = tuple([f"v{slot}" for slot in range(params)])
        named_functions.append((f"f{place}", names, named_body(body)))
    return ("program", tables, tuple(named_functions), named_body(main[2]))


def named_body(body):
    """Returns a body with names for numbers."""
    return tuple([named(statement, STATEMENTS[statement[0]]) for statement in body])


def named(node, parts):
    """Returns a statement or an expression with such parts, with names for numbers."""
    items = [named_item(item, part) for item, part in zip(node[1:], parts)]
    return ("name" if node[0] == "slot" else node[0],) + tuple(items)


def named_item(item, part):
    """Returns such a part of a statement or an expression with names for numbers."""
    if part == "expression":
        return named(item, EXPRESSIONS[item[0]])
    if part == "body":
        return named_body(item)
    if part == "args":
        return tuple([named(arg, EXPRESSIONS[arg[0]]) for arg in item])
    if part == "variable":
        return f"v{item}"
    if part == "table":
        return f"t{item}"
    if part == "function":
        return f"f{item}"
    return item
