import random
import unittest

import sources
from sources import COMPARISONS, KEYWORDS, RANK_OF
from onestepcourt.errors import BadSource
from onestepcourt.reading import parse

ONE = ("number", 1)
A, B, C, D = ("name", "a"), ("name", "b"), ("name", "c"), ("name", "d")


def op(sign, left, right):
    """The expression of a sign or a word between two sides."""
    return (sign, left, right) if sign in ("and", "or") else ("op", sign, left, right)


class Reading(unittest.TestCase):
    def bad(self, text, line):
        with self.assertRaises(BadSource, msg=text) as raised:
            parse(text)
        self.assertEqual(raised.exception.line, line, text)
        self.assertIs(type(raised.exception.reason), str)
        self.assertNotEqual(raised.exception.reason, "")

    def statement(self, text):
        """The statement that a line, or some lines, of the main part are."""
        tree = parse("main\n" + text + "\nend")
        self.assertEqual(tree[:3], ("program", (), ()))
        self.assertEqual(len(tree[3]), 1, text)
        return tree[3][0]

    def expression(self, text):
        statement = self.statement("tell " + text)
        self.assertEqual((statement[0], len(statement)), ("tell", 2))
        return statement[1]

    def bad_statement(self, text):
        self.bad("main\n" + text + "\nend", 2)

    def bad_expression(self, text):
        for line in ("tell " + text, "let v = " + text, "if " + text, "t[" + text + "] = 1", "do f(1, " + text + ")"):
            self.bad("main\n\n" + line + "\nend\nend", 3)


class Texts(Reading):
    """Point 502."""

    def test_the_greatest_text(self):
        text = "main\ntell 1\nend\n"
        for filling in ("#" + "x" * 8000, " " * 8000, "\n" * 8000):
            full = text + filling[:8000 - len(text)]
            self.assertEqual(len(full), 8000)
            self.assertEqual(parse(full), ("program", (), (), (("tell", ONE),)))
            self.bad(full + filling[0], 0)
            self.bad(full + "\n", 0)

    def test_too_long_a_text_comes_ahead_of_wrong_lines(self):
        self.bad("%" + "\n" * 8000, 0)
        self.bad("%" + "\n" * 7999, 1)

    def test_characters(self):
        signs = [chr(code) for code in list(range(0, 300)) + [0x2028, 0x4e2d, 0xd800, 0x1f600]]
        for sign in signs:
            if sign == "\n":
                continue
            fine = " " <= sign <= "~" and sign != "%"
            for text, line in (
                ("#" + sign + "\nmain\nend", 1), ("main # " + sign + " x\nend", 1), ("main\nend\n# x" + sign, 3),
                ("main\ntell 1 #" + sign + "\nend", 2),
            ):
                if fine:
                    self.assertEqual(len(parse(text)), 4)
                else:
                    self.bad(text, line)
            if not fine:
                self.bad("main\ntell 1" + sign + "\nend", 2)
                self.bad("main\n" + sign + "\nend", 2)
                self.bad("main\nend\n\n" + sign, 4)

    def test_signs_that_are_no_tokens(self):
        for sign in "!\"$&'.:;?@\\^_`{|}~%":
            for line in ("tell 1 " + sign, sign, "tell " + sign + "1", "tell a" + sign + "b", "a" + sign + "= 1"):
                self.bad_statement(line)
            self.bad_statement("tell 1 " + sign + " 2")

    def test_numbers(self):
        for number in (0, 1, 7, 9, 10, 100, 1023, 1024, 9999, 10000, 65534, 65535):
            self.assertEqual(self.expression(str(number)), ("number", number))
        for text in ("65536", "65540", "66000", "99999", "100000", "655350", "00", "01", "007", "065535", "000000",
                     "1" * 4299, "1" * 5000, "0" * 5000, "1.5", "-1", "+1", "1e3", "0x1", "1a", "12mod", "9z", "1_0"):
            self.bad_expression(text)

    def test_names(self):
        for name in ("a", "Z", "a1", "A0b", "abcdefghijkl", "ABCDEFGHIJKL", "a12345678901", "ifs", "If", "END",
                     "tells"):
            self.assertEqual(self.expression(name), ("name", name))
            self.assertEqual(
                parse(f"table {name} 2\nto {name}({name})\nend\nmain\nlet {name} = 1\n{name} = 1\n"
                      f"{name}[1] = {name}[1]\ndo {name}({name}(1))\nend"),
                ("program", ((name, 2),), ((name, (name,), ()),), (
                    ("let", name, ONE), ("set", name, ONE), ("put", name, ONE, ("at", name, ONE)),
                    ("do", name, (("call", name, (ONE,)),)))))

    def test_words_that_are_no_names(self):
        words = ("abcdefghijklm", "a" * 13, "a" * 4000, "1a", "1", "9abc", "0") + tuple(KEYWORDS)
        for word in words:
            self.bad(f"table {word} 2\nmain\nend", 1)
            self.bad(f"to {word}()\nend\nmain\nend", 1)
            self.bad(f"to f({word})\nend\nmain\nend", 1)
            self.bad(f"to f(a, {word})\nend\nmain\nend", 1)
            for line in (f"let {word} = 1", f"{word} = 1", f"{word}[1] = 1", f"do {word}()", f"do {word}(1)",
                         f"tell {word}[1]", f"tell {word}()", f"tell a + {word}(1, 2)"):
                self.bad_statement(line)
            if word not in ("inputs", "1", "0"):
                self.bad_expression(word)
            if word not in ("input", "not"):
                self.bad_expression(word + "(1)")
        self.assertEqual(self.expression("inputs"), ("inputs",))
        self.assertEqual(self.expression("input(1)"), ("input", ONE))
        self.assertEqual(self.expression("not(1)"), ("not", ONE))

    def test_two_characters_that_form_a_sign(self):
        for sign in ("==", "!=", "<=", ">="):
            expected = ("op", sign, A, B)
            for text in ("a" + sign + "b", "a " + sign + " b", "a" + sign + " b", "a   " + sign + "b"):
                self.assertEqual(self.expression(text), expected)
            self.bad_expression("a " + sign[0] + " " + sign[1] + " b")
        for text in ("a=b", "a===b", "a<==b", "a=>b", "a=<b", "a<>b", "a!b", "a!==b", "a<<b", "a**b", "a//b", "a==="):
            self.bad_expression(text)
        for line in ("let a==1", "a==1", "t[1]==2", "let a = = 1", "a = = 1", "let a === 1", "a<=1"):
            self.bad_statement(line)
        self.assertEqual(self.statement("a=b==c"), ("set", "a", op("==", B, C)))
        self.assertEqual(self.statement("t[1]=b==c"), ("put", "t", ONE, op("==", B, C)))

    def test_spaces_may_be_left_out(self):
        self.assertEqual(
            parse("table t 4\nto f(a,b)\ngive(a)\nend\nmain\nlet k=1\nk=k+1\nt[0]=t[k]*2\nif(k)\nelse\nend\n"
                  "while(k<1)\ndo f(1,2)\nend\ntell(1)mod(2)\ntell not(k)and(k)or not k\ntell input(0)-inputs\nend"),
            ("program", (("t", 4),), (("f", ("a", "b"), (("give", A),)),), (
                ("let", "k", ONE), ("set", "k", op("+", ("name", "k"), ONE)),
                ("put", "t", ("number", 0), op("*", ("at", "t", ("name", "k")), ("number", 2))),
                ("if", ("name", "k"), (), ()),
                ("while", op("<", ("name", "k"), ONE), (("do", "f", (ONE, ("number", 2))),)),
                ("tell", op("mod", ONE, ("number", 2))),
                ("tell", ("or", ("and", ("not", ("name", "k")), ("name", "k")), ("not", ("name", "k")))),
                ("tell", op("-", ("input", ("number", 0)), ("inputs",))))))

    def test_more_spaces(self):
        self.assertEqual(
            parse("  table   t  4  \n to  f ( a , b ) \n   give  ( a )\nend  \n main \n t [ 0 ]  =  t [ k ] \n"
                  " do  f ( 1 , input ( 2 ) ) \n   end"),
            ("program", (("t", 4),), (("f", ("a", "b"), (("give", A),)),), (
                ("put", "t", ("number", 0), ("at", "t", ("name", "k"))),
                ("do", "f", (ONE, ("input", ("number", 2)))))))

    def test_spaces_that_are_needed(self):
        for line in ("tell1", "tella", "dof()", "givea", "iff", "tell a mod1", "tell 1mod 2", "tell nota b",
                     "tell a andb", "tell aor b", "tell 1 2", "tell a b", "tell in put(1)", "t able t 1"):
            self.bad_statement(line)
        self.bad("tablet 1\nmain\nend", 1)
        self.bad("table t1\nmain\nend", 1)
        self.bad("tof()\nend\nmain\nend", 1)
        # These are names.
        self.assertEqual(self.statement("leta=1"), ("set", "leta", ONE))
        self.assertEqual(self.expression("nota"), ("name", "nota"))
        self.assertEqual(self.expression("input2(1)"), ("call", "input2", (ONE,)))
        self.assertEqual(self.expression("a1"), ("name", "a1"))


class Lines(Reading):
    """Point 503."""

    def test_the_least_text(self):
        for text in ("main\nend", "main\nend\n", "\n\nmain\n\nend\n\n", "main#\nend#", "  main  \n  end  "):
            self.assertEqual(parse(text), ("program", (), (), ()))

    def test_each_statement(self):
        for text, expected in (
            ("let a = 1", ("let", "a", ONE)), ("a = 1", ("set", "a", ONE)),
            ("a[b] = c", ("put", "a", B, C)), ("tell a", ("tell", A)), ("give a", ("give", A)),
            ("do f()", ("do", "f", ())), ("do f(a)", ("do", "f", (A,))), ("do f(a, 1)", ("do", "f", (A, ONE))),
            ("do f(a, b, c, d)", ("do", "f", (A, B, C, D))),
            ("if a\ntell 1\nend", ("if", A, (("tell", ONE),), ())), ("if a\nend", ("if", A, (), ())),
            ("if a\nelse\nend", ("if", A, (), ())), ("if a\nelse\ntell 1\nend", ("if", A, (), (("tell", ONE),))),
            ("if a\ntell 1\nelse\nend", ("if", A, (("tell", ONE),), ())),
            ("if a\ntell 1\ntell 1\nelse\ngive 1\ngive b\nend",
             ("if", A, (("tell", ONE), ("tell", ONE)), (("give", ONE), ("give", B)))),
            ("while a\nend", ("while", A, ())), ("while a\ntell b\ntell 1\nend",
                                                 ("while", A, (("tell", B), ("tell", ONE)))),
            ("if a\nif b\nelse\ntell 1\nend\nelse\nwhile c\nend\nend",
             ("if", A, (("if", B, (), (("tell", ONE),)),), (("while", C, ()),))),
            ("while a\nif b\ntell 1\nend\ntell 1\nend",
             ("while", A, (("if", B, (("tell", ONE),), ()), ("tell", ONE)))),
        ):
            self.assertEqual(self.statement(text), expected)
            function = parse("to f()\n" + text + "\nend\nmain\nend")
            self.assertEqual(function, ("program", (), (("f", (), (expected,)),), ()))

    def test_functions(self):
        for head, params in (
            ("to f()", ()), ("to f(a)", ("a",)), ("to f(a, b)", ("a", "b")), ("to f(a,b,a)", ("a", "b", "a")),
            ("to f(a, b, c, d)", ("a", "b", "c", "d")), ("to f ( )", ()),
        ):
            self.assertEqual(parse(head + "\nend\nmain\nend"), ("program", (), (("f", params, ()),), ()))
            self.assertEqual(
                parse(head + "\ngive 1\nend\nto g()\ntell 1\nend\nmain\ntell a\nend"),
                ("program", (), (("f", params, (("give", ONE),)), ("g", (), (("tell", ONE),))), (("tell", A),)))

    def test_lines_that_have_no_form(self):
        for line in (
            "tell a, b", "let", "let a", "let a =", "let = 1", "let 1 = 1", "let a 1", "let a = 1 2", "let a[1] = 2",
            "let a = 1,",
            "let a = 1 = 2", "a", "a =", "= 1", "a = 1 2", "a = b = c", "a 1", "1 = a", "(a) = 1", "a + 1", "a(1)",
            "a(1) = 2", "a[] = 1", "a[1 = 1", "a[1]", "a[1] =", "a[1] 2", "a[1, 2] = 3", "a[1][2] = 3", "a]1[ = 2",
            "tell", "tell 1 2", "tell 1, 2", "tell = 1", "give", "give 1 2", "give a = 1", "do", "do f", "do f(",
            "do f)",
            "do f(1", "do f(1,)", "do f(,1)", "do f(,)", "do f(1 2)", "do f(1,,2)", "do f() 1", "do f()()", "do f[1]",
            "do f(1))", "do f = 1", "do 1()", "do input(1)", "do (f())", "if", "if 1 2", "if a = 1", "if 1 tell 2",
            "if 1,",
            "while", "while 1 2", "while a = 1", "else 1", "else if 1", "end 1", "end end", "main 1", "1", "a b",
            "not a",
            "inputs", "input(1)", "inputs = 1", "mod", "(", ")", "and", ",", "=", "tell 1 else",
        ):
            self.bad("main\nif 1\ntell 1 # )\n" + line + "\nend\nend", 4)

    def test_headings_that_have_no_form(self):
        for line in (
            "table", "table t", "table 1", "table t 0", "table t 65", "table t 01", "table t 1 2", "table t -1",
            "table t 64a", "table t a", "table t = 1", "table t(1)", "table t[1]", "table t, u 1", "table t 65536",
            "table t 1,", "tables t 1", "table 1 t", "table t 064", "table t (1)",
            "to", "to f", "to f(", "to f)", "to f(a", "to f(a,)", "to f(,a)", "to f(,)", "to f(a b)", "to f(1)",
            "to f(a, 1)", "to f(a,,b)", "to f() a", "to f()()", "to f[a]", "to f(a + b)", "to f((a))", "to 1()",
            "to (a)",
            "to f(a))", "to f(a) give 1", "main 1", "main()", "main main", "Main", "main,", "main end", "mains",
        ):
            self.bad(line + "\nmain\nend", 1)
            self.bad("\n# x\n" + line + "\nend\nmain\nend", 3)

    def test_sizes(self):
        for size in (1, 2, 9, 10, 63, 64):
            self.assertEqual(parse(f"table t {size}\nmain\nend"), ("program", (("t", size),), (), ()))
        for size in (0, 65, 66, 100, 65535, 65536):
            self.bad(f"table t 64\ntable u {size}\nmain\nend", 2)

    def test_empty_lines_and_comments_anywhere(self):
        lines = ["table t 2", "to f(a)", "if a", "give 1", "else", "tell 1", "end", "end", "main", "while a", "end",
                 "end"]
        expected = parse("\n".join(lines))
        for filling in ("", " ", "      ", "#", "# end", "   # main", "##", "#\n\n  \n#"):
            for place in range(len(lines) + 1):
                self.assertEqual(parse("\n".join(lines[:place] + [filling] + lines[place:])), expected)
            self.assertEqual(parse(("\n" + filling + "\n").join([""] + lines + [""])), expected)
        for filling in (" ", "#", " # end", "#\"", "   ####"):
            self.assertEqual(parse("\n".join(line + filling for line in lines)), expected)

    def test_the_order(self):
        table, function, main = "table t 1\n", "to f()\nend\n", "main\nend\n"
        self.assertEqual(
            parse(table + table + function + function + main),
            ("program", (("t", 1), ("t", 1)), (("f", (), ()), ("f", (), ())), ()))
        for text, line in (
            (function + table + main, 3), (table + function + table + main, 4), (main + table, 3), (main + function, 3),
            (main + main, 3), (function + main + function, 5), (table + main + table + main, 4),
            (main + "tell 1", 3), (main + "end", 3), (main + "else", 3), (main + "\n\n#\nend", 6),
            (main + "nonsense", 3),
            ("end\n" + main, 1), ("else\n" + main, 1), ("tell 1\n" + main, 1), ("let a = 1\n" + main, 1),
            (table + "a = 1\n" + main, 2), (function + "a[1] = 1\n" + main, 3), ("if 1\nend\n" + main, 1),
            ("while 1\nend\n" + main, 1), ("do f()\n" + main, 1), ("give 1\n" + main, 1),
            (function + "end\n" + main, 3),
        ):
            self.bad(text, line)

    def test_lines_that_cannot_stand_in_a_body(self):
        for opening in ("main", "to f()", "main\nif 1", "main\nwhile 1", "main\nif 1\nelse", "to f()\nif 1\nwhile 1"):
            here = 2 + opening.count("\n")
            for line in ("table t 1", "to g()", "main"):
                self.bad(opening + "\n" + line + "\nend\nend\nend\nend", here)
        for opening in ("main", "to f()", "main\nwhile 1", "main\nif 1\nelse", "main\nif 1\nwhile 1",
                        "main\nif 1\nend", "to f()\nif 1\nelse\nif 2\nelse\nend"):
            self.bad(opening + "\nelse\nend\nend\nend", 2 + opening.count("\n"))


class Expressions(Reading):
    """Point 504."""

    def test_each_expression(self):
        for text, expected in (
            ("7", ("number", 7)), ("a", A), ("inputs", ("inputs",)), ("a[b]", ("at", "a", B)),
            ("a()", ("call", "a", ())),
            ("a(b)", ("call", "a", (B,))), ("a(b, c)", ("call", "a", (B, C))),
            ("a(b, c, d, 1)", ("call", "a", (B, C, D, ONE))), ("input(a)", ("input", A)), ("not a", ("not", A)),
            ("a or b", ("or", A, B)), ("a and b", ("and", A, B)), ("(a)", A), ("((a))", A), ("(a)(b)", None),
            ("not not a", ("not", ("not", A))), ("a[b[c]]", ("at", "a", ("at", "b", C))),
            ("a(b(c), d[1])", ("call", "a", (("call", "b", (C,)), ("at", "d", ONE)))),
            ("input(inputs - 1)", ("input", op("-", ("inputs",), ONE))),
            ("a[b or c]", ("at", "a", ("or", B, C))), ("a(b or c, not d)", ("call", "a", (("or", B, C), ("not", D)))),
        ):
            if expected is None:
                self.bad_expression(text)
            else:
                self.assertEqual(self.expression(text), expected)
        for sign in sources.SIGNS:
            self.assertEqual(self.expression("a " + sign + " b"), ("op", sign, A, B))

    def test_texts_that_are_no_expressions(self):
        for text in (
            "", "()", "(", ")", "(a", "a)", "((a)", "(a))", "a[", "a[]", "a[1", "a]", "a[1)", "a(1]", "(a]", "[a]",
            "[1]",
            "a(", "a(1", "a(,)", "a(1,)", "a(,1)", "a(1 2)", "a(1)(2)", "a[1][2]", "a(1)[2]", "a[1](2)", "1(2)", "1[2]",
            "input", "input()", "input(1, 2)", "input[1]", "input 1", "inputs(1)", "inputs[1]", "inputs()", "not",
            "a not b", "a or", "or a", "a and", "and a", "a or and b", "a and or b", "a +", "+ a", "a + + b", "- a",
            "a - - b",
            "a * / b", "a mod", "mod a", "a mod mod b", "a <", "< a", "a < < b", "1 a", "a 1", "a b", "(a) b",
            "a (b) c", "not or a", "a not", "let", "tell 1", "a = b", "a and b and", "not (a", "a == not b", "!a",
        ):
            self.bad_expression(text)

    def test_pairs_of_signs(self):
        for first, one in RANK_OF.items():
            for second, two in RANK_OF.items():
                text = "a " + first + " b " + second + " c"
                left = op(second, op(first, A, B), C)
                right = op(first, A, op(second, B, C))
                if one == two == 4:
                    self.bad_expression(text)
                else:
                    self.assertEqual(self.expression(text), right if two > one else left)
                self.assertEqual(self.expression("(a " + first + " b) " + second + " c"), left)
                self.assertEqual(self.expression("a " + first + " (b " + second + " c)"), right)

    def test_three_signs(self):
        drawn = random.Random(504)
        signs = list(RANK_OF)
        for _ in range(600):
            x, y, z = drawn.choice(signs), drawn.choice(signs), drawn.choice(signs)
            text = f"a {x} b {y} c {z} d"
            expected = self.by_ranks([A, x, B, y, C, z, D])
            if expected is None:
                self.bad_expression(text)
            else:
                self.assertEqual(self.expression(text), expected)

    def by_ranks(self, parts):
        """Splits at the last sign of the least rank; None if two comparisons stand side by side."""
        if len(parts) == 1:
            return parts[0]
        signs = parts[1::2]
        least = min(RANK_OF[sign] for sign in signs)
        if least == 4 and sum(RANK_OF[sign] == 4 for sign in signs) > 1:
            return None
        at = max(place for place, sign in enumerate(signs) if RANK_OF[sign] == least)
        left, right = self.by_ranks(parts[:2 * at + 1]), self.by_ranks(parts[2 * at + 2:])
        return None if left is None or right is None else op(signs[at], left, right)

    def test_not(self):
        for sign, rank in RANK_OF.items():
            whole = ("not", op(sign, A, B)) if rank >= 4 else op(sign, ("not", A), B)
            self.assertEqual(self.expression("not a " + sign + " b"), whole)
            self.assertEqual(self.expression("not (a " + sign + " b)"), ("not", op(sign, A, B)))
            self.assertEqual(self.expression("(not a) " + sign + " b"), op(sign, ("not", A), B))
            self.assertEqual(self.expression("a " + sign + " (not b)"), op(sign, A, ("not", B)))
            if rank < 3:
                self.assertEqual(self.expression("a " + sign + " not b"), op(sign, A, ("not", B)))
            else:
                self.bad_expression("a " + sign + " not b")
        self.assertEqual(self.expression("not not a < b and c"), ("and", ("not", ("not", op("<", A, B))), C))
        self.assertEqual(self.expression("not a[1]"), ("not", ("at", "a", ONE)))

    def test_comparisons_side_by_side(self):
        for first in COMPARISONS:
            for second in COMPARISONS:
                self.bad_expression(f"a {first} b {second} c")
                self.bad_expression(f"a + 1 {first} b * 2 {second} c - 1")
                self.bad_expression(f"not a {first} b {second} c")
                self.assertEqual(
                    self.expression(f"a {first} b and c {second} d"), ("and", op(first, A, B), op(second, C, D)))

    def test_open_brackets(self):
        for many in (1, 15, 16):
            self.assertEqual(self.expression("(" * many + "1" + ")" * many), ONE)
        for many in (17, 18, 100, 3000):
            self.bad_statement("tell " + "(" * many + "1" + ")" * many)

    def test_open_brackets_round_and_square_ones_together(self):
        # Seven tables and nine more round brackets are 16 brackets, and not too deep.
        for before, behind, expected in (
            ("t[" * 7, "]" * 7, None), ("f(" * 7, ")" * 7, None), ("input(" * 7, ")" * 7, None),
            ("t[f(" * 3 + "input(", ")" + ")]" * 3, None),
        ):
            self.expression(before + "(" * 9 + "1" + ")" * 9 + behind)
            self.bad_statement("tell " + before + "(" * 10 + "1" + ")" * 10 + behind)
        self.statement("t[" + "(" * 15 + "1" + ")" * 15 + "] = " + "(" * 16 + "1" + ")" * 16)
        self.bad_statement("t[" + "(" * 16 + "1" + ")" * 16 + "] = 1")
        self.bad_statement("t[1] = " + "(" * 17 + "1" + ")" * 17)
        self.statement("do f(" + "(" * 15 + "1" + ")" * 15 + ")")
        self.bad_statement("do f(" + "(" * 16 + "1" + ")" * 16 + ")")
        self.bad_statement("do f(1, 2, " + "(" * 16 + "1" + ")" * 16 + ")")

    def test_brackets_that_were_closed_do_not_count(self):
        sixteen = "(" * 16 + "a" + ")" * 16
        self.assertEqual(self.expression(" + ".join([sixteen] * 4)), op("+", op("+", op("+", A, A), A), A))
        fifteen = "(" * 15 + "a" + ")" * 15
        self.assertEqual(self.expression("f(" + ", ".join([fifteen] * 4) + ")"), ("call", "f", (A,) * 4))

    def test_too_many_open_brackets_are_a_fault_of_their_line(self):
        self.bad("main\ntell 1\ntell " + "(" * 17 + "1" + ")" * 17 + "\nnonsense\nend", 3)


class Faults(Reading):
    """Point 506."""

    def test_values_that_are_no_texts(self):
        for value in (None, True, 0, 1, b"main\nend", [], (), ["main", "end"], {}, object(), 1.5):
            self.bad(value, 0)

    def test_texts_that_end_too_early(self):
        for text in ("", "\n", "\n\n\n", "#", "  ", "main", "main\n", "main\n\n  \n#", "table t 1", "table t 1\n",
                     "to f()", "to f()\nend", "to f()\nend\n\n", "main\nif 1\nend", "main\nwhile 1\nend\n",
                     "main\nif 1\nelse\ntell 1", "main\nif 1\nelse\ntell 1\nend\n\n\n",
                     "table t 1\nto f()\ngive 1\nend\n#"):
            self.bad(text, 1 + text.count("\n"))

    def test_the_first_wrong_line(self):
        lines = ["table t 2", "to f(a)", "if a", "give 1", "else", "tell 1", "end", "end", "main", "while a", "end",
                 "end"]
        for place in range(len(lines)):
            for wrong in ("nonsense", "tell", "tell 1 1", "%", "# %", "table t 65", "let end = 1"):
                broken = lines[:place] + [wrong] + lines[place + 1:]
                self.bad("\n".join(broken), place + 1)
                self.bad("\n".join(broken[:place + 1]), place + 1)
                self.bad("\n".join(broken + ["%", ")", "end"]), place + 1)
        self.bad("\n".join(lines + ["%"]), 13)
        self.bad("main\nelse\nnonsense\nend", 2)
        self.bad("main\nnonsense\nelse\nend", 2)

    def test_a_wrong_line_comes_ahead_of_an_early_end(self):
        self.bad("main\nnonsense\n\n", 2)
        self.bad("to f()\nend\nmain\nif 1\ntable t 1\n", 5)

    def test_too_many_tables_and_functions(self):
        main = "main\nend"
        for kind, place in (("table t 1\n", 1), ("to f()\nend\n", 2)):
            self.assertEqual(len(parse(kind * 8 + main)[place]), 8)
            self.bad(kind * 9 + main, 0)
            self.bad(kind * 50 + main, 0)
            self.bad(kind * 9 + "main\nnonsense\nend", 2 + (kind * 9).count("\n"))
            self.bad(kind * 9 + "main\n", 2 + (kind * 9).count("\n"))

    def test_too_many_params_and_args(self):
        for many in range(0, 12):
            row = ", ".join(["a"] * many)
            for text, line in (
                (f"to f({row})\nend\nmain\nend", 5), (f"main\ndo f({row})\nend", 4), (f"main\ntell f({row})\nend", 4),
                (f"main\nlet k = 1 + f(1, f({row}))\nend", 4),
            ):
                if many <= 4:
                    self.assertEqual(parse(text)[0], "program")
                else:
                    self.bad(text, 0)
                    self.bad(text + "\nnonsense", line)

    def test_too_great_a_depth(self):
        for text, line in (("not " * 10, 0), ("1 + " * 10, 0), ("1 and " * 10, 0), ("input(" * 10, 10),
                           ("t[" * 10, -10)):
            closing = ")" * line if line >= 0 else "]" * -line
            self.assertEqual(parse("main\ntell " + text + "a" + closing + "\nend")[0], "program")
        for text, closing in (("not ", ""), ("1 + ", ""), ("1 or ", ""), ("input(", ")"), ("t[", "]"), ("f(1, ", ")")):
            wrong = "main\ntell " + text * 11 + "a" + closing * 11 + "\nend"
            self.bad(wrong, 0)
            self.bad(wrong + "\nend", 4)
            self.bad("main\ntell " + text * 11 + "a" + closing * 11, 2)

    def test_very_great_depths(self):
        for line in ("not " * 1990 + "a", "a" + "+1" * 3980, "a" + " or b" * 1590, "a" + "*1" * 3980):
            self.bad("main\ntell " + line + "\nend", 0)
            self.bad("main\ntell " + line + "\n)", 3)
        for head in ("if 1\n", "while 1\n"):
            text = "main\n" + head * 600 + "end\n" * 600
            self.bad(text + "end", 0)
            self.bad(text + "end\nend", 1203)
            self.bad(text, 1202)
        self.bad("main\n" + "if 1\nelse\n" * 500 + "end\n" * 500 + "end", 0)

    def test_the_depth_of_statements(self):
        def text(many, inner):
            return "main\n" + "if a\n" * many + inner + "\n" + "end\n" * many + "end"

        parse(text(10, "tell 1"))
        parse(text(11, "do f()"))
        self.bad(text(12, ""), 0)
        self.bad(text(11, "tell 1"), 0)
        self.bad(text(12, "do f()"), 0)
        parse(text(11, ""))

    def test_an_else_with_nothing_behind_it(self):
        self.assertEqual(self.statement("if a\ntell 1\nelse\nend"), self.statement("if a\ntell 1\nend"))
        self.assertEqual(self.statement("if a\nelse\n\n# x\nend"), ("if", A, (), ()))

    def test_lines_laid_out_in_many_ways(self):
        drawn = random.Random(506)
        read = 0
        for turn in range(400):
            tree = sources.drawn_tree(drawn)
            text = sources.Layout(drawn, drawn.choice((0, 0.1, 0.3))).text(tree)
            if len(text) <= 8000 and sources.most_open(text) <= 16:
                self.assertEqual(parse(text), tree, text)
                read += 1
        self.assertGreater(read, 300)

    def test_texts_with_one_character_changed(self):
        """Whatever a text is, it gives a source tree or the line of a BadSource."""
        drawn = random.Random(5060)
        for turn in range(60):
            text = sources.Layout(drawn, 0.1).text(sources.drawn_tree(drawn))[:2000]
            for _ in range(25):
                place = drawn.randrange(len(text) + 1)
                other = text[:place] + drawn.choice("\n\n (),=1a[]<%#") + text[place + drawn.randint(0, 1):]
                try:
                    tree = parse(other)
                except BadSource as error:
                    self.assertTrue(0 <= error.line <= 1 + other.count("\n"), other)
                else:
                    self.assertTrue(sources.is_source(tree), other)


if __name__ == "__main__":
    unittest.main()
