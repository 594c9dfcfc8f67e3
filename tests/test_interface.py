"""The interface of the document: each name in its file, with its arguments, and the methods in the classes."""

import importlib
import inspect
import unittest

FUNCTIONS = {
    "digests": {"is_integer": ["value", "least", "greatest"], "is_word": ["value"]},
    "trees": {
        "root_of": ["digests", "row"], "path_of": ["digests", "row", "place"],
        "root_by": ["digests", "place", "digest", "path"],
    },
    "machine": {
        "first_registers": [], "first_words": ["image", "inputs"], "out_of": ["digests", "words"],
        "data_of": ["registers", "word"], "done_by": ["digests", "registers", "word", "data"],
    },
    "openings": {
        "opened": ["machine"], "step_of": ["digests", "digest", "opening"], "are_registers": ["digests", "value"],
    },
    "words": {"op": ["sign", "a", "b"]},
    "forms": {"is_tree": ["value"]},
    "reading": {"parse": ["text"]},
    "writing": {"write": ["tree"]},
    "checked": {"is_checked": ["value"]},
    "meaning": {"check": ["tree"], "source": ["value"]},
    "plain": {"plain": ["checked", "inputs", "units"]},
    "building": {"build": ["checked"]},
    "letters": {"is_letter": ["digests", "value"]},
    "players": {"letters_for": ["court", "digests", "number", "history"]},
    "schedules": {"read_schedule": ["text"], "run": ["text"]},
    "judging": {
        "ledger_of": ["court", "coins", "bond", "patience"], "true_run": ["digests", "image", "inputs", "level"],
        "ledger_faults": ["digests", "ledger"], "truth_faults": ["digests", "ledger"],
        "has_collision": ["bits", "ledger"],
    },
}

CLASSES = {
    "errors": {
        "BadSource": {"__init__": ["line", "reason"]}, "BadProgram": {"__init__": ["reason"]},
        "BadSchedule": {"__init__": ["line"]},
    },
    "digests": {
        "Digests": {
            "__init__": ["bits", "book"], "leaf": ["word"], "fold": ["left", "right"], "state": ["numbers"],
            "modulus": [], "is_digest": ["value"], "without_book": [],
        },
        "Book": {"__init__": [], "add": ["kind", "text", "digest"], "has_collision": [], "count": []},
    },
    "trees": {
        "Memory": {
            "__init__": ["digests", "words"], "word": ["place"], "change": ["place", "word"], "words": [],
            "root": [], "path": ["place"],
        },
    },
    "machine": {
        "Machine": {
            "__init__": ["digests", "registers", "words"], "registers": [], "words": [], "word": ["place"],
            "path": ["place"], "root": [], "digest": [], "step": [], "told": [],
        },
    },
    "histories": {
        "History": {
            "__init__": ["digests", "words", "k", "turn"], "digest": ["steps"], "root": ["level", "index"],
            "halves": ["level", "index"], "opening": ["steps"], "end": [],
        },
    },
    "court": {
        "Court": {
            "__init__": ["digests", "coins", "bond", "patience"], "receive": ["player", "letter"], "tick": [],
            "time": [], "coins": [], "held": [], "log": [], "count": [], "question": ["number"],
            "claims": ["number"], "edges": ["number"], "has_rival": ["number", "edge"],
            "is_proven": ["number", "edge"], "halves": ["number", "edge"], "timer": ["number", "edge"],
            "accepted": ["number"], "answer": ["number"],
        },
    },
    "players": {
        "Honest": {"__init__": ["player", "digests"], "letters": ["court"], "player": []},
        "Liar": {"__init__": ["player", "digests", "way", "number"], "letters": ["court"], "player": []},
    },
    "worlds": {
        "World": {
            "__init__": ["bits", "bond", "patience", "late", "players"], "do": ["event"], "court": [], "book": [],
            "letters": [],
        },
    },
}


def module(name):
    return importlib.import_module("onestepcourt." + name)


class Interface(unittest.TestCase):
    def test_functions(self):
        for name, functions in FUNCTIONS.items():
            for function, arguments in functions.items():
                with self.subTest(module=name, function=function):
                    found = getattr(module(name), function)
                    self.assertEqual(list(inspect.signature(found).parameters), arguments)
                    self.assertEqual(found.__module__, "onestepcourt." + name)

    def test_classes(self):
        for name, classes in CLASSES.items():
            for kind, methods in classes.items():
                found = getattr(module(name), kind)
                self.assertEqual(found.__module__, "onestepcourt." + name)
                for method, arguments in methods.items():
                    with self.subTest(module=name, kind=kind, method=method):
                        self.assertIn(method, vars(found))
                        parameters = list(inspect.signature(vars(found)[method]).parameters)
                        self.assertEqual(parameters, ["self"] + arguments)


if __name__ == "__main__":
    unittest.main()
