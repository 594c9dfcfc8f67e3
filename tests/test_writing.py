import random
import unittest

import sources
from sources import RANK_OF
from onestepcourt.errors import BadSource, BadTree
from onestepcourt.reading import parse
from onestepcourt.writing import write

ONE = ("number", 1)
A, B, C, D = ("name", "a"), ("name", "b"), ("name", "c"), ("name", "d")


def op(sign, left, right):
    """The expression of a sign or a word between two sides."""
    return (sign, left, right) if sign in ("and", "or") else ("op", sign, left, right)


def told(expression):
    return ("program", (), (), (("tell", expression),))


class Writing(unittest.TestCase):
    def written(self, tree, text):
        """The tree has this text, which is read as the tree again."""
        self.assertEqual(write(tree), text)
        self.assertEqual(parse(text), tree)

    def test_the_least_tree(self):
        self.written(("program", (), (), ()), "main\nend\n")

    def test_a_whole_program(self):
        self.written(
            ("program", (("t", 1), ("rows", 64)), (
                ("f", (), ()), ("g", ("a",), (("give", A),)),
                ("h", ("a", "b", "c", "d"), (("tell", D), ("give", ONE)))),
             (("let", "k", ONE), ("tell", ("name", "k")))),
            "table t 1\ntable rows 64\nto f()\nend\nto g(a)\n  give a\nend\nto h(a, b, c, d)\n  tell d\n  give 1\nend\n"
            "main\n  let k = 1\n  tell k\nend\n")

    def test_each_statement(self):
        for statement, lines in (
            (("let", "k", ONE), ["let k = 1"]), (("set", "k", op("+", A, ONE)), ["k = a + 1"]),
            (("put", "t", op("-", A, B), op("<", A, B)), ["t[a - b] = a < b"]),
            (("tell", ("or", A, B)), ["tell a or b"]),
            (("give", ("not", A)), ["give not a"]), (("do", "f", ()), ["do f()"]), (("do", "f", (A,)), ["do f(a)"]),
            (("do", "f", (A, ("or", A, B), ONE, ("inputs",))), ["do f(a, a or b, 1, inputs)"]),
            (("if", A, (), ()), ["if a", "end"]), (("if", A, (("tell", ONE),), ()), ["if a", "  tell 1", "end"]),
            (("if", A, (), (("tell", ONE),)), ["if a", "else", "  tell 1", "end"]),
            (("if", A, (("tell", ONE), ("tell", A)), (("tell", B), ("give", C))),
             ["if a", "  tell 1", "  tell a", "else", "  tell b", "  give c", "end"]),
            (("while", A, ()), ["while a", "end"]),
            (("while", A, (("while", B, (("tell", ONE),)), ("if", C, (), (("if", D, (), ()),)))),
             ["while a", "  while b", "    tell 1", "  end", "  if c", "  else", "    if d", "    end", "  end",
              "end"]),
        ):
            text = "".join("  " + line + "\n" for line in lines)
            self.written(("program", (), (), (statement,)), "main\n" + text + "end\n")
            self.written(
                ("program", (), (("f", (), (statement, statement)),), (statement,)),
                "to f()\n" + text + text + "end\nmain\n" + text + "end\n")

    def test_each_expression(self):
        for expression, text in (
            (("number", 0), "0"), (("number", 65535), "65535"), (A, "a"), (("inputs",), "inputs"),
            (("at", "t", A), "t[a]"), (("call", "f", ()), "f()"), (("call", "f", (A,)), "f(a)"),
            (("call", "f", (A, B, C, D)), "f(a, b, c, d)"), (("input", A), "input(a)"), (("not", A), "not a"),
            (("not", ("not", A)), "not not a"), (("or", A, B), "a or b"), (("and", A, B), "a and b"),
            (("at", "t", ("or", A, B)), "t[a or b]"), (("input", ("or", A, B)), "input(a or b)"),
            (("call", "f", (("or", A, B), ("not", C))), "f(a or b, not c)"),
            (("call", "f", (("call", "g", ()), ("at", "t", ("at", "u", ONE)))), "f(g(), t[u[1]])"),
            (("not", ("or", A, B)), "not (a or b)"), (("not", ("and", A, B)), "not (a and b)"),
            (("not", op("==", A, B)), "not a == b"), (("not", ("input", A)), "not input(a)"),
            (op("*", op("+", A, B), C), "(a + b) * c"), (op("-", A, op("-", B, C)), "a - (b - c)"),
            (op("-", op("-", A, B), C), "a - b - c"), (op("/", A, ("at", "t", op("/", B, C))), "a / t[b / c]"),
            (op("<", op("<", A, B), C), "(a < b) < c"), (op("<", A, op("<", B, C)), "a < (b < c)"),
            (op("<", ("not", A), ("not", B)), "(not a) < (not b)"),
            (("and", ("not", A), ("not", B)), "not a and not b"),
            (op("mod", A, ("not", ("not", B))), "a mod (not not b)"),
        ):
            self.written(told(expression), "main\n  tell " + text + "\nend\n")
        for sign in sources.SIGNS:
            self.written(told(op(sign, A, ONE)), "main\n  tell a " + sign + " 1\nend\n")

    def test_pairs_of_signs(self):
        for first, one in RANK_OF.items():
            for second, two in RANK_OF.items():
                # The left side has at least the rank of the whole, with a comparison a greater one.
                inner = f"a {first} b"
                left = inner if one > two or (one == two and one != 4) else f"({inner})"
                self.written(told(op(second, op(first, A, B), C)), f"main\n  tell {left} {second} c\nend\n")
                inner = f"b {second} c"
                right = inner if two > one else f"({inner})"
                self.written(told(op(first, A, op(second, B, C))), f"main\n  tell a {first} {right}\nend\n")

    def test_not_beside_signs(self):
        for sign, rank in RANK_OF.items():
            denied = "not a" if rank < 3 else "(not a)"
            self.written(told(op(sign, ("not", A), B)), f"main\n  tell {denied} {sign} b\nend\n")
            self.written(told(op(sign, B, ("not", A))), f"main\n  tell b {sign} {denied}\nend\n")
            whole = f"(a {sign} b)" if rank < 3 else f"a {sign} b"
            self.written(told(("not", op(sign, A, B))), f"main\n  tell not {whole}\nend\n")

    def test_lines_that_begin_with_a_bracket(self):
        whole = op("*", op("+", A, B), C)
        for statement, line in (
            (("tell", whole), "tell (a + b) * c"), (("give", whole), "give (a + b) * c"),
            (("let", "k", whole), "let k = (a + b) * c"), (("set", "k", whole), "k = (a + b) * c"),
            (("put", "t", whole, whole), "t[(a + b) * c] = (a + b) * c"),
            (("do", "f", (whole, whole)), "do f((a + b) * c, (a + b) * c)"),
        ):
            self.written(("program", (), (), (statement,)), "main\n  " + line + "\nend\n")
        self.written(("program", (), (), (("if", whole, (), ()),)), "main\n  if (a + b) * c\n  end\nend\n")
        self.written(("program", (), (), (("while", whole, ()),)), "main\n  while (a + b) * c\n  end\nend\n")

    def test_indents(self):
        body = (("do", "f", ()),)
        for _ in range(11):
            body = (("while", ONE, body),)
        lines = ["main"] + ["  " * k + "while 1" for k in range(1, 12)] + ["  " * 12 + "do f()"]
        lines += ["  " * k + "end" for k in range(11, 0, -1)] + ["end", ""]
        self.written(("program", (), (), body), "\n".join(lines))

    def test_drawn_trees(self):
        drawn = random.Random(507)
        short = 0
        for _ in range(400):
            tree = sources.drawn_tree(drawn)
            text = write(tree)
            self.assertTrue(text.endswith("end\n"))
            self.assertNotIn("\n\n", text)
            self.assertLessEqual(sources.most_open(text), 16)
            if len(text) <= 8000:
                self.assertEqual(parse(text), tree)
                self.assertEqual(write(parse(text)), text)
                short += 1
        self.assertGreater(short, 300)

    def test_other_layouts_give_the_same_text(self):
        drawn = random.Random(5070)
        for _ in range(100):
            tree = sources.drawn_tree(drawn)
            text = sources.Layout(drawn, 0.2).text(tree)
            if len(text) <= 8000 and sources.most_open(text) <= 16:
                self.assertEqual(write(parse(text)), write(tree))

    def test_no_bracket_may_be_left_out(self):
        """Without a pair of round brackets in an expression, the text has another tree or none."""
        drawn = random.Random(5071)
        left_out = 0
        for _ in range(250):
            tree = told(sources.drawn_expression(drawn, 6))
            text = write(tree)
            for place, end in self.pairs(text):
                # The brackets of calls and of inputs belong to the word in front of them.
                if text[place - 1].isalnum():
                    continue
                shorter = text[:place] + text[place + 1:end] + text[end + 1:]
                try:
                    self.assertNotEqual(parse(shorter), tree, shorter)
                except BadSource:
                    pass
                left_out += 1
        self.assertGreater(left_out, 300)

    def pairs(self, text):
        begun = []
        for place, sign in enumerate(text):
            if sign == "(":
                begun.append(place)
            elif sign == ")":
                yield begun.pop(), place

    def test_the_deepest_expressions(self):
        for wrap in (lambda e: op("*", op("+", ONE, e), A), lambda e: ("at", "t", op("-", A, e)),
                     lambda e: ("not", ("or", e, A))):
            e = A
            for _ in range(5):
                e = wrap(e)
            text = write(told(e))
            self.assertEqual(parse(text), told(e))

    def test_a_text_may_be_longer_than_the_most(self):
        tree = ("program", (), (), (("tell", ONE),) * 900)
        text = write(tree)
        self.assertEqual(text, "main\n" + "  tell 1\n" * 900 + "end\n")
        with self.assertRaises(BadSource) as raised:
            parse(text)
        self.assertEqual(raised.exception.line, 0)

    def test_values_that_are_no_source_trees(self):
        for value in (
            None, True, 0, "main\nend\n", (), [], ("program", (), ()), ["program", (), (), ()],
            ("program", [], (), ()), ("program", (), (), [("tell", ONE)]), ("checked", (), (), (0, 0, ())),
            told(("number", True)), told(("number", 65536)), told(("name", "end")), told(("slot", 0)), told(None),
            ("program", (("t", 0),), (), ()), ("program", (("t", 1),) * 9, (), ()), told(("call", "f", (ONE,) * 5)),
        ):
            with self.assertRaises(BadTree):
                write(value)
        drawn = random.Random(5072)
        for value in list(sources.changed(sources.drawn_tree(drawn)))[::5]:
            if not sources.is_source(value):
                with self.assertRaises(BadTree):
                    write(value)

    def test_arguments_are_not_modified(self):
        lists = [[("tell", ONE)], [ONE]]
        for value in (("program", (), (), lists[0]), ("program", (), (), (("do", "f", lists[1]),))):
            with self.assertRaises(BadTree):
                write(value)
        self.assertEqual(lists, [[("tell", ONE)], [ONE]])


if __name__ == "__main__":
    unittest.main()
