import random
import unittest

import sources
from onestepcourt.forms import KEYWORDS, is_tree

ONE = ("number", 1)
TELL = ("tell", ONE)


def main(*statements):
    return ("program", (), (), statements)


def told(expression):
    return main(("tell", expression))


def nested(levels):
    """An expression of so many levels."""
    expression = ("inputs",)
    for _ in range(levels - 1):
        expression = ("not", expression)
    return expression


STATEMENTS = (
    ("let", "k", ONE), ("set", "k", ONE), ("put", "t", ONE, ("number", 2)), ("if", ONE, (TELL,), ()),
    ("if", ONE, (), (TELL,)), ("if", ONE, (), ()), ("while", ONE, (TELL, TELL)), ("while", ONE, ()), TELL,
    ("give", ONE), ("do", "f", ()), ("do", "f", (ONE, ONE, ONE, ONE)),
)
EXPRESSIONS = (
    ("or", ONE, ONE), ("and", ONE, ONE), ("not", ONE), ("number", 0), ("number", 65535), ("name", "k"), ("inputs",),
    ("at", "t", ONE), ("call", "f", ()), ("call", "f", (ONE, ("name", "k"))), ("input", ONE),
) + tuple(("op", sign, ONE, ONE) for sign in sources.SIGNS)
WHOLE = (
    "program", (("t", 1), ("u", 64)), (("f", ("a", "b"), STATEMENTS), ("g", (), ())),
    STATEMENTS + tuple(("tell", e) for e in EXPRESSIONS))


class Keywords(unittest.TestCase):
    def test_the_keywords_in_their_order(self):
        self.assertEqual(KEYWORDS, (
            "and", "do", "else", "end", "give", "if", "input", "inputs", "let", "main", "mod", "not", "or", "table",
            "tell", "to", "while"))


class Trees(unittest.TestCase):
    def yes(self, value):
        self.assertIs(is_tree(value), True, value)

    def no(self, value):
        self.assertIs(is_tree(value), False, value)

    def test_the_least_tree(self):
        self.yes(("program", (), (), ()))

    def test_each_statement(self):
        for statement in STATEMENTS:
            self.yes(main(statement))
            self.yes(("program", (), (("f", (), (statement,)),), ()))

    def test_each_expression(self):
        for expression in EXPRESSIONS:
            self.yes(told(expression))
        self.yes(WHOLE)

    def test_statements_are_no_expressions(self):
        for statement in STATEMENTS:
            self.no(told(statement))
        for expression in EXPRESSIONS:
            self.no(main(expression) if expression[0] != "do" else None)

    def test_values_that_are_nothing_like_a_tree(self):
        for value in (
            None, True, False, 0, 1, -1, 1.5, "", "program", b"program", (), [], {}, set(), object(), object,
            ("program",), "main\nend", ["program", (), (), ()], ("Program", (), (), ()), (b"program", (), (), ()),
            ("program", (), ()), ("program", (), (), (), ()), ("checked", (), (), ()), ("checked", (), (), (0, 0, ())),
            (True, (), (), ()), (("program",), (), (), ()), ("program", [], (), ()), ("program", (), [], ()),
            ("program", (), (), []), ("program", None, (), ()), ("program", (), None, ()), ("program", (), (), None),
            ("program", "", (), ()), ("program", (), "", ()), ("program", (), (), ""), ("program", {}, {}, {}),
        ):
            self.no(value)

    def test_values_that_cannot_be_compared_or_hashed(self):
        class Wild:
            def __eq__(self, other):
                raise RuntimeError

            def __len__(self):
                raise RuntimeError

            __hash__ = None

        wild = Wild()
        for value in (wild, (wild,), (wild, (), (), ()), ("program", wild, wild, wild)):
            self.no(value)
        for part in (wild, (wild,), (wild, wild), (wild, wild, wild), ([], [], []), ({}, {}, {}, {})):
            self.no(("program", (part,), (), ()))
            self.no(("program", (), (part,), ()))
            self.no(("program", (), (), (part,)))
            self.no(told(part))
            self.no(("program", (), (("f", (part,), ()),), ()))
        for part in (wild, [], {}):
            self.no(told(("op", part, ONE, ONE)))
            self.no(told(("number", part)))
            self.no(told(("name", part)))
            self.no(told(("call", "f", part)))

    def test_names(self):
        places = (
            lambda name: ("program", ((name, 1),), (), ()), lambda name: ("program", (), ((name, (), ()),), ()),
            lambda name: ("program", (), (("f", (name,), ()),), ()),
            lambda name: ("program", (), (("f", ("a", "b", "c", name), ()),), ()),
            lambda name: main(("let", name, ONE)), lambda name: main(("set", name, ONE)),
            lambda name: main(("put", name, ONE, ONE)), lambda name: main(("do", name, ())),
            lambda name: told(("name", name)), lambda name: told(("at", name, ONE)),
            lambda name: told(("call", name, ())),
        )
        good = ("a", "Z", "a1", "A0B9", "ifs", "End", "MOD", "program", "abcdefghijkl", "a12345678901")
        bad = KEYWORDS + (
            "", "1", "1a", "9z", "abcdefghijklm", "a123456789012", "a_b", "_a", "a b", " a", "a ", "a\n", "a-b", "a.b",
            "\u00e9", "a\u00e9", "a\u0661", "\u4e2d", "a" * 5000, b"a", 1, True, None, (), ("a",), ["a"])
        for place in places:
            for name in good:
                self.yes(place(name))
            for name in bad:
                self.no(place(name))

    def test_names_may_be_the_same(self):
        self.yes(("program", (("a", 1), ("a", 2)), (("a", ("a", "a"), ()), ("a", (), ())), (("let", "a", ONE),)))

    def test_numbers(self):
        for number in (0, 1, 1023, 1024, 65535):
            self.yes(told(("number", number)))
        for number in (-1, 65536, 10 ** 6000, True, False, 1.0, "1", None, (1,)):
            self.no(told(("number", number)))

    def test_sizes(self):
        for size in (1, 2, 63, 64):
            self.yes(("program", (("t", size),), (), ()))
        for size in (0, -1, 65, True, False, 1.0, "1", None, (1,)):
            self.no(("program", (("t", size),), (), ()))

    def test_signs(self):
        for sign in ("", "=", "and", "or", "not", "%", "//", "!", "=<", "**", None, True, 0, ("+",), ["+"], b"+"):
            self.no(told(("op", sign, ONE, ONE)))
        for sign in sources.SIGNS:
            self.no(told((sign, ONE, ONE)))

    def test_bounds(self):
        table, function = ("t", 1), ("f", (), ())
        for many, expected in ((0, True), (1, True), (8, True), (9, False), (20, False)):
            self.assertIs(is_tree(("program", (table,) * many, (), ())), expected)
            self.assertIs(is_tree(("program", (), (function,) * many, ())), expected)
        for many, expected in ((0, True), (1, True), (4, True), (5, False), (9, False)):
            self.assertIs(is_tree(("program", (), (("f", ("a",) * many, ()),), ())), expected)
            self.assertIs(is_tree(told(("call", "f", (ONE,) * many))), expected)
            self.assertIs(is_tree(main(("do", "f", (ONE,) * many))), expected)

    def test_bodies_may_have_any_number_of_statements(self):
        self.yes(main(*(TELL,) * 3000))

    def test_the_depth_of_expressions(self):
        for e, levels in ((ONE, 1), (("not", ONE), 2), (("at", "t", ("not", ONE)), 3)):
            self.yes(told(e))
        for statement in (
            lambda e: ("let", "k", e), lambda e: ("set", "k", e), lambda e: ("put", "t", e, ONE),
            lambda e: ("put", "t", ONE, e), lambda e: ("if", e, (), ()), lambda e: ("while", e, ()),
            lambda e: ("tell", e), lambda e: ("give", e), lambda e: ("do", "f", (ONE, e)),
        ):
            self.yes(main(statement(nested(11))))
            self.no(main(statement(nested(12))))
            self.no(main(statement(nested(13))))
            self.yes(("program", (), (("f", (), (statement(nested(11)),)),), ()))
            self.no(("program", (), (("f", (), (statement(nested(12)),)),), ()))

    def test_the_depth_through_each_expression(self):
        for wrap in (
            lambda e: ("or", e, ONE), lambda e: ("or", ONE, e), lambda e: ("and", e, ONE), lambda e: ("and", ONE, e),
            lambda e: ("not", e), lambda e: ("op", "+", e, ONE), lambda e: ("op", "<", ONE, e),
            lambda e: ("at", "t", e), lambda e: ("call", "f", (e,)), lambda e: ("call", "f", (ONE, ONE, ONE, e)),
            lambda e: ("input", e),
        ):
            self.yes(told(wrap(nested(10))))
            self.no(told(wrap(nested(11))))

    def test_the_depth_of_statements(self):
        def within(wraps, statement):
            for wrap in wraps:
                statement = wrap(statement)
            return main(statement)

        for wrap in (
            lambda s: ("if", ONE, (s,), ()), lambda s: ("if", ONE, (), (s,)), lambda s: ("while", ONE, (s,)),
            lambda s: ("while", ONE, (("do", "f", ()), s)),
        ):
            self.yes(within([wrap] * 10, ("tell", nested(1))))
            self.no(within([wrap] * 10, ("tell", nested(2))))
            self.yes(within([wrap] * 11, ("do", "f", ())))
            self.no(within([wrap] * 11, ("do", "f", (ONE,))))
            self.no(within([wrap] * 11, ("tell", ONE)))
            self.no(within([wrap] * 12, ("do", "f", ())))
            self.yes(within([wrap] * 3, ("tell", nested(8))))
            self.no(within([wrap] * 3, ("tell", nested(9))))

    def test_values_that_are_nested_without_end(self):
        deep = ONE
        for _ in range(100000):
            deep = ("not", deep)
        self.no(told(deep))
        body = ()
        for _ in range(100000):
            body = (("while", ONE, body),)
        self.no(main(*body))
        circle = []
        circle.append(("not", circle))
        self.no(told(("not", circle)))

    def test_slots_are_no_part_of_a_source_tree(self):
        self.no(told(("slot", 0)))
        self.no(told(("slot", "k")))
        self.no(main(("let", 0, ONE)))
        self.no(told(("at", 0, ONE)))

    def test_one_part_changed(self):
        trees = [main(statement) for statement in STATEMENTS] + [told(e) for e in EXPRESSIONS]
        trees += [("program", (("t", 5),), (("f", ("a",), (("give", ("name", "a")),)),), (TELL,))]
        found = {True: 0, False: 0}
        for tree in trees:
            self.assertTrue(sources.is_source(tree))
            for value in sources.changed(tree):
                expected = sources.is_source(value)
                self.assertIs(is_tree(value), expected, value)
                found[expected] += 1
        self.assertGreater(found[True], 100)
        self.assertGreater(found[False], 1000)

    def test_drawn_trees(self):
        drawn = random.Random(505)
        for _ in range(300):
            tree = sources.drawn_tree(drawn)
            self.assertTrue(sources.is_source(tree))
            self.yes(tree)

    def test_drawn_trees_with_one_part_changed(self):
        drawn = random.Random(5051)
        for _ in range(25):
            for value in list(sources.changed(sources.drawn_tree(drawn)))[::7]:
                self.assertIs(is_tree(value), sources.is_source(value), value)


if __name__ == "__main__":
    unittest.main()
