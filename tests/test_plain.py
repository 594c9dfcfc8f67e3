import random
import unittest

import programs
import sources
from onestepcourt.meaning import check
from onestepcourt.plain import plain
from onestepcourt.reading import parse

MANY = 100000


def program(body, head=""):
    return check(parse(head + "main\n" + body + "\nend"))


class Plain(unittest.TestCase):
    def run_of(self, body, inputs=(), units=MANY, head=""):
        result = plain(program(body, head), inputs, units)
        self.assertIs(type(result), tuple)
        self.assertIs(type(result[0]), tuple)
        self.assertTrue(all(type(word) is int for word in result[0]))
        return result

    def tells(self, body, *words, inputs=(), head="", mark="done"):
        self.assertEqual(self.run_of(body, inputs, MANY, head), (words, mark), body)

    def value(self, expression, inputs=(), head=""):
        told, mark = self.run_of("tell " + expression, inputs, MANY, head)
        self.assertEqual((len(told), mark), (1, "done"), expression)
        return told[0]


class Statements(Plain):
    """Points 511 and 513."""

    def test_a_program_without_statements(self):
        for units in (0, 1, 5):
            self.assertEqual(self.run_of("", (), units), ((), "done"))
        self.assertEqual(plain(("checked", (1,), ((0, 0, ()),), (0, 0, ())), (1, 2), 0), ((), "done"))

    def test_let_and_set(self):
        self.tells("let k = 5\ntell k\nk = k + 1\ntell k\nlet n = k * k\ntell n\ntell k\nk = n\ntell k", 5, 6, 36, 6,
                   36)

    def test_a_let_is_given_its_value_anew_in_each_turn(self):
        self.tells("let k = 0\nwhile k < 3\nlet n = k\nn = n + 10\ntell n\nk = k + 1\nend", 10, 11, 12)

    def test_variables_of_other_bodies_are_others(self):
        self.tells("if 1\nlet k = 1\nend\nif 1\nlet k = 2\ntell k\nend\nlet k = 3\ntell k", 2, 3)

    def test_tables_have_0_at_first(self):
        self.tells("tell t[0]\ntell t[1]\ntell t[2]\ntell u[0]", 0, 0, 0, 0, head="table t 3\ntable u 1\n")

    def test_put(self):
        head = "table t 3\ntable u 3\n"
        self.tells(
            "t[0] = 5\nt[2] = 7\nu[1] = 9\ntell t[0]\ntell t[1]\ntell t[2]\ntell u[0]\ntell u[1]\ntell u[2]\n"
            "t[t[1]] = t[2]\ntell t[0]", 5, 0, 7, 0, 9, 0, 7, head=head)

    def test_the_edges_of_a_table(self):
        for size in (1, 2, 64):
            head = f"table s 2\ntable t {size}\ntable u 2\n"
            self.tells(f"t[{size - 1}] = 8\ntell t[{size - 1}]\ntell u[0]\ntell s[1]", 8, 0, 0, head=head)
            for place in (size, size + 1, 255, 256, 65535):
                self.tells(f"tell 1\nt[{place}] = 8\ntell 2", 1, mark="place", head=head)
                self.tells(f"tell 1\ntell t[{place}]\ntell 2", 1, mark="place", head=head)
        self.tells("t[0 - 1] = 1", mark="place", head="table t 3\n")

    def test_a_put_reckons_the_place_then_the_value_and_then_looks_at_the_place(self):
        head = "table t 2\nto f(a)\ntell a\ngive a\nend\n"
        self.tells("t[f(1)] = f(2)\ntell t[1]", 1, 2, 2, head=head)
        self.tells("t[f(2)] = f(3)\ntell t[1]", 2, 3, mark="place", head=head)
        self.tells("t[9] = 1 / 0", mark="divided", head=head)
        self.tells("t[9] = input(0)", mark="input", head=head)
        self.tells("t[1 / 0] = input(0)", mark="divided", head=head)
        self.tells("t[input(0)] = 1 / 0", mark="input", head=head)
        self.tells("t[9] = t[8]", mark="place", head=head)
        # The value may change the table ahead of the put.
        self.tells("t[0] = g()\ntell t[0]", 5, head="table t 2\nto g()\nt[0] = 4\ngive t[0] + 1\nend\n")

    def test_if(self):
        for value, told in ((0, (2, 3)), (1, (1, 3)), (2, (1, 3)), (65535, (1, 3))):
            self.tells(f"if {value}\ntell 1\nelse\ntell 2\nend\ntell 3", *told)
        self.tells("if 0\ntell 1\nend\ntell 3", 3)
        self.tells("if 1\nelse\ntell 1\nend\ntell 3", 3)
        self.tells("if 7\nif 0\ntell 1\nelse\ntell 2\nend\ntell 4\nend", 2, 4)

    def test_while(self):
        self.tells("let k = 3\nwhile k\ntell k\nk = k - 1\nend\ntell 9", 3, 2, 1, 9)
        self.tells("while 0\ntell 1\nend\ntell 2", 2)
        self.tells("let k = 5\nwhile k mod 3\nk = k + 3 - 2\nend\ntell k", 6)
        self.tells("let k = 65534\nwhile k\nk = k + 1\nend\ntell k", 0)

    def test_the_test_of_a_while_is_reckoned_anew_each_time(self):
        self.tells("let k = 0\nwhile f(k) < 3\nk = k + 1\nend", 0, 1, 2, 3, head="to f(a)\ntell a\ngive a\nend\n")

    def test_tell(self):
        for word in (0, 1, 1023, 1024, 65535):
            self.tells(f"tell {word}\ntell {word}", word, word)

    def test_sixteen_told_words_and_one_more(self):
        sixteen = tuple(range(16))
        lines = "\n".join(f"tell {word}" for word in sixteen)
        self.tells(lines, *sixteen)
        self.tells(lines + "\ntell 16", *sixteen, mark="full")
        self.tells(lines + "\ntell 16\ntell 17", *sixteen, mark="full")
        self.tells(lines + "\ntell 1 / 0", *sixteen, mark="divided")
        self.tells(lines + "\ntell input(0)", *sixteen, mark="input")
        self.tells(lines + "\nif 0\ntell 1\nend", *sixteen)
        self.tells("let k = 0\nwhile 1\ntell k\nk = k + 1\nend", *sixteen, mark="full")
        self.tells("while 1\ndo f()\nend", *((7, 8) * 8), mark="full", head="to f()\ntell 7\ntell 8\nend\n")

    def test_give(self):
        head = "to f(a)\nif a\ngive 5\ntell 1\nend\nwhile 1\ngive 6\nend\ntell 2\nend\n"
        self.tells("tell f(1)\ntell f(0)", 5, 6, head=head)
        self.tells("tell f(3)\ntell f(4)", 3, 4, head="to f(a)\ngive a\ngive 9\ntell 1 / 0\nend\n")

    def test_a_function_without_give_has_the_result_0(self):
        for body in ("", "tell 3\n", "a = 7\n", "if 0\ngive 4\nend\n", "while a\na = 0\nend\n"):
            self.assertEqual(self.run_of("tell f(2) + 1", head="to f(a)\n" + body + "end\n")[0][-1], 1)
        # Also behind another function that gave something.
        self.tells("tell f(0)", 0, head="to g()\ngive 4\nend\nto f(a)\na = g()\ndo g()\nend\n")
        self.tells("tell g() + f()", 4, head="to g()\ngive 4\nend\nto f()\nend\n")

    def test_do(self):
        head = "table t 2\nto f(a, b)\ntell a\nt[0] = b\ngive 9\nend\n"
        self.tells("do f(1, 2)\ntell t[0]\ndo f(f(3, 4), 5)\ntell t[0]", 1, 2, 3, 9, 5, head=head)
        self.tells("do f(1, 1 / 0)\ntell 1", mark="divided", head=head)

    def test_words_that_were_told_ahead_of_the_end(self):
        """Point 515."""
        for line, mark in (("tell 1 / 0", "divided"), ("tell t[2]", "place"), ("tell input(0)", "input"), ("", "done")):
            self.tells("tell 4\ntell 5\n" + line, 4, 5, mark=mark, head="table t 2\n")
        self.assertEqual(self.run_of("tell 4\nwhile 1\nend", (), 50), ((4,), "long"))
        self.tells("tell 4\ndo f()\ntell 6", 4, 5, mark="divided", head="to f()\ntell 5\ntell 1 mod 0\nend\n")


class Expressions(Plain):
    """Point 514."""

    def test_signs(self):
        pairs = ((0, 0), (0, 1), (1, 0), (5, 3), (3, 5), (7, 7), (65535, 1), (1, 65535), (65535, 65535), (300, 300),
                 (65535, 0))
        drawn = random.Random(514)
        pairs += tuple((drawn.randint(0, 65535), drawn.randint(0, 65535)) for _ in range(10))
        for a, b in pairs:
            for sign, expected in (
                ("+", (a + b) % 65536), ("-", (a - b) % 65536), ("*", a * b % 65536), ("==", int(a == b)),
                ("!=", int(a != b)), ("<", int(a < b)), ("<=", int(a <= b)), (">", int(a > b)), (">=", int(a >= b)),
                ("/", a // b if b else None), ("mod", a % b if b else None),
            ):
                for text in (f"{a} {sign} {b}", f"input(0) {sign} input(1)"):
                    if expected is None:
                        self.tells(f"tell 8\ntell {text}\ntell 9", 8, inputs=(a, b), mark="divided")
                    else:
                        self.assertEqual(self.value(text, (a, b)), expected, text)

    def test_not(self):
        for word, expected in ((0, 1), (1, 0), (2, 0), (65535, 0)):
            self.assertEqual(self.value(f"not {word}"), expected)
            self.assertEqual(self.value(f"not not {word}"), 1 - expected)

    def test_and_and_or_give_0_or_1(self):
        for a in (0, 1, 2, 65535):
            for b in (0, 1, 7, 65535):
                self.assertEqual(self.value(f"{a} and {b}"), int(a != 0 and b != 0))
                self.assertEqual(self.value(f"{a} or {b}"), int(a != 0 or b != 0))

    def test_what_is_not_reckoned(self):
        self.assertEqual(self.value("0 and 1 / 0"), 0)
        self.assertEqual(self.value("3 or 1 / 0"), 1)
        self.assertEqual(self.value("0 and input(5)"), 0)
        self.assertEqual(self.value("1 or t[5]", (), "table t 1\n"), 1)
        self.tells("tell 1 and 1 / 0", mark="divided")
        self.tells("tell 0 or 1 / 0", mark="divided")
        self.tells("tell 1 / 0 and 0", mark="divided")
        self.tells("tell 1 / 0 or 1", mark="divided")
        head = "to f(a)\ntell a\ngive a\nend\n"
        self.tells("tell f(0) and f(1)", 0, 0, head=head)
        self.tells("tell f(2) and f(0)", 2, 0, 0, head=head)
        self.tells("tell f(2) and f(3)", 2, 3, 1, head=head)
        self.tells("tell f(0) or f(0)", 0, 0, 0, head=head)
        self.tells("tell f(0) or f(4)", 0, 4, 1, head=head)
        self.tells("tell f(4) or f(5)", 4, 1, head=head)
        self.tells("tell f(0) and f(1) or f(2)", 0, 2, 1, head=head)

    def test_expressions_are_reckoned_from_left_to_right(self):
        head = "table t 9\nto f(a)\ntell a\ngive a\nend\nto g(a, b, c, d)\nend\n"
        self.tells("tell f(1) + f(2) * f(3)", 1, 2, 3, 7, head=head)
        self.tells("tell (f(1) - f(2)) < (f(3) mod f(4))", 1, 2, 3, 4, 0, head=head)
        self.tells("do g(f(1), f(2) + f(3), f(4), f(5))", 1, 2, 3, 4, 5, head=head)
        self.tells("tell g(f(f(1)), f(2), f(3), f(4))", 1, 1, 2, 3, 4, 0, head=head)
        self.tells("tell t[f(1)] + input(f(0))", 1, 0, 6, inputs=(6,), head=head)
        for text, mark in (
            ("1 / 0 + input(0)", "divided"), ("input(0) + 1 / 0", "input"), ("t[9] * (1 / 0)", "place"),
            ("g(1, input(0), t[9], 1 / 0)", "input"), ("g(1, 2, t[9], 1 / 0)", "place"), ("input(t[9])", "place"),
            ("t[input(0)]", "input"), ("not 1 / 0", "divided"), ("(1 / 0) / 0", "divided"), ("input(0) / 0", "input"),
        ):
            self.tells("tell " + text, mark=mark, head=head)

    def test_the_order_of_a_variable_and_a_call_that_changes_a_table(self):
        head = "table t 1\nto f()\nt[0] = t[0] + 1\ngive t[0]\nend\n"
        self.tells("tell t[0] + f()\ntell f() + t[0]\ntell t[0]", 1, 4, 2, head=head)

    def test_inputs(self):
        for inputs in ((), (7,), (65535, 0, 3), tuple(range(100, 116))):
            self.assertEqual(self.value("inputs", inputs), len(inputs))
            for place, word in enumerate(inputs):
                self.assertEqual(self.value(f"input({place})", inputs), word)
            for place in (len(inputs), len(inputs) + 1, 255, 256, 65535):
                self.tells(f"tell 1\ntell input({place})\ntell 2", 1, inputs=inputs, mark="input")

    def test_calls(self):
        head = (
            "table t 2\nto f(a, b)\nlet k = a * 10\na = 99\nt[1] = t[1] + 1\ngive k + b\nend\n"
            "to g(a)\nlet b = a + 1\ngive f(a, b) + f(b, a) + a\nend\n"
        )
        self.tells("let a = 1\nlet k = 2\ntell f(a, k)\ntell a\ntell k\ntell g(3)\ntell t[1]", 12, 1, 2, 80, 3,
                   head=head)
        self.tells("tell f(f(1, 2), f(3, 4))\ntell t[1]", 154, 3, head=head)
        self.tells("tell h()", 42, head="to h()\ngive 42\nend\n")
        self.tells("tell p(1, 2, 3, 4)", 1234, head="to p(a, b, c, d)\ngive ((a * 10 + b) * 10 + c) * 10 + d\nend\n")

    def test_variables_of_a_function_are_its_own_in_each_call(self):
        head = "to f(a)\nlet k = a\nif a > 5\nk = k + 1\nend\ngive k\nend\n"
        self.tells("let k = 3\ntell f(9)\ntell f(1)\ntell k", 10, 1, 3, head=head)


class Units(Plain):
    """Point 512."""

    def by_units(self, body, expected, inputs=(), head=""):
        """The results for the units from 0 on; the last one holds for all greater numbers, too."""
        checked = program(body, head)
        for units, (told, mark) in enumerate(expected):
            self.assertEqual(plain(checked, inputs, units), (tuple(told), mark), units)
        for units in (len(expected), len(expected) + 1, MANY, 10 ** 30):
            self.assertEqual(plain(checked, inputs, units), (tuple(expected[-1][0]), expected[-1][1]), units)

    def test_one_for_each_statement(self):
        long = "long"
        self.by_units("tell 1\ntell 2\ntell 3", [((), long), ((1,), long), ((1, 2), long), ((1, 2, 3), "done")])
        self.by_units("let k = 1\nk = 2\nt[0] = k\ntell t[0]", [((), long)] * 4 + [((2,), "done")], head="table t 1\n")

    def test_expressions_use_none(self):
        self.by_units("tell (1 + 2) * 3 - input(0) and not t[0] or inputs", [((), "long"), ((1,), "done")], (4,),
                      "table t 1\n")

    def test_if(self):
        self.by_units("if 1\ntell 1\nelse\ntell 2\nend\ntell 3",
                      [((), "long"), ((), "long"), ((1,), "long"), ((1, 3), "done")])
        self.by_units("if 0\ntell 1\nend", [((), "long"), ((), "done")])

    def test_a_while_and_each_of_its_turns(self):
        self.by_units("while 0\ntell 1\nend", [((), "long"), ((), "done")])
        self.by_units(
            "let k = 2\nwhile k\ntell k\nk = k - 1\nend",
            # let; while; turn, tell, set; turn, tell, set.
            [((), "long")] * 4 + [((2,), "long")] * 3 + [((2, 1), "long"), ((2, 1), "done")])

    def test_a_turn_without_statements(self):
        for units in range(40):
            self.assertEqual(self.run_of("tell 1\nwhile 1\nend", (), units), ((1,) if units else (), "long"))

    def test_the_test_of_a_while_is_reckoned_ahead_of_the_unit_of_its_turn(self):
        head = "to f(a)\ntell a\ngive a\nend\n"
        # while; in f: tell, give; turn; in f: tell, give ..
        checked = program("while f(5) == 5\nend", head)
        for units, many in enumerate((0, 0, 1, 1, 1, 2, 2, 2, 3, 3, 3, 4)):
            self.assertEqual(plain(checked, (), units), ((5,) * many, "long"), units)
        # A test that ends the run needs no unit for its turn.
        self.by_units("while 1 / 0\nend", [((), "long"), ((), "divided")])
        self.by_units("let k = 1\nwhile 1 / k\nk = k - 1\nend", [((), "long")] * 4 + [((), "divided")])

    def test_the_statements_of_functions(self):
        self.by_units(
            "tell f(1)\ndo f(2)", [((), "long"), ((), "long"), ((1,), "long"), ((1, 3), "long"), ((1, 3), "long"),
                                   ((1, 3, 2), "long"), ((1, 3, 2), "done")],
            head="to f(a)\ntell a\ngive 3\nend\n")
        self.by_units("do f()", [((), "long"), ((), "done")], head="to f()\nend\n")

    def test_other_marks_take_their_unit_too(self):
        for line, mark in (("tell 1 / 0", "divided"), ("tell input(0)", "input"), ("t[1] = 1", "place")):
            self.by_units("tell 7\n" + line, [((), "long"), ((7,), "long"), ((7,), mark)], head="table t 1\n")
        lines = "\n".join(["tell 3"] * 17)
        self.by_units(lines, [((3,) * k, "long") for k in range(17)] + [((3,) * 16, "full")])

    def test_the_end_of_a_body_uses_none(self):
        self.by_units("if 1\nif 1\nif 1\nend\nend\nend", [((), "long")] * 3 + [((), "done")])


class Others(Plain):
    def test_expressions_of_all_functions_at_the_greatest_depth(self):
        functions = []
        for place in range(8):
            e = ("call", place - 1, ()) if place > 0 else ("number", 9)
            for _ in range(10):
                e = ("op", "+", ("number", 1), e)
            functions.append((0, 0, (("give", e),)))
        e = ("call", 7, ())
        for _ in range(10):
            e = ("or", ("number", 0), e)
        checked = ("checked", (), tuple(functions), (0, 0, (("tell", e), ("tell", ("call", 7, ())))))
        self.assertTrue(programs.is_right(checked))
        self.assertEqual(plain(checked, (), 100), ((1, 89), "done"))

    def test_statements_of_all_functions_at_the_greatest_depth(self):
        functions = []
        for place in range(9):
            # From the inside outwards; each loop has a turn, as its variable becomes 0 in it.
            body = (("do", place - 1, ()),) if place > 0 else (("if", ("number", 0), (), ()),)
            body = (("if", ("number", 1), body, ()),) if place > 0 else body
            for slot in range(9, -1, -1):
                ending = ("set", slot, ("number", 0))
                body = (("let", slot, ("number", 1)), ("while", ("slot", slot), (ending,) + body))
            functions.append((0, 10, body + (("tell", ("number", place)),)))
        checked = ("checked", (), tuple(functions[:8]), functions[8])
        self.assertTrue(programs.is_right(checked))
        self.assertEqual(plain(checked, (), 1000), (tuple(range(9)), "done"))

    def test_runs_begin_anew(self):
        checked = program("t[0] = t[0] + 1\ntell t[0]", "table t 2\n")
        for _ in range(3):
            self.assertEqual(plain(checked, (), 9), ((1,), "done"))

    def test_drawn_programs(self):
        drawn = random.Random(511)
        marks = {}
        for _ in range(500):
            checked = check(programs.drawn_program(drawn, drawn.randint(0, 8)))
            inputs = tuple(drawn.choice((0, 1, 2, 3, 9, 65535)) for _ in range(drawn.choice((0, 1, 2, 4, 16))))
            for units in tuple(range(25)) + (40, 80, 200):
                result = plain(checked, inputs, units)
                self.assertEqual(result, programs.plain_of(checked, inputs, units))
            marks[result[1]] = marks.get(result[1], 0) + 1
        self.assertEqual(sorted(marks), ["divided", "done", "full", "input", "long", "place"])
        self.assertGreater(min(marks.values()), 5)

    def test_each_number_of_units_up_to_the_need_and_one_more(self):
        drawn = random.Random(512)
        for _ in range(80):
            checked = check(programs.drawn_program(drawn, drawn.randint(1, 5)))
            need = programs.Reading(checked, (1, 2), 150).used
            for units in range(need + 2):
                self.assertEqual(plain(checked, (1, 2), units), programs.plain_of(checked, (1, 2), units))

    def test_more_units_never_take_a_word_back(self):
        drawn = random.Random(513)
        for _ in range(80):
            checked = check(programs.drawn_program(drawn, 6))
            before = ((), "long")
            for units in range(60):
                result = plain(checked, (3,), units)
                self.assertEqual(result[0][:len(before[0])], before[0])
                if before[1] != "long":
                    self.assertEqual(result, before)
                before = result


if __name__ == "__main__":
    unittest.main()
