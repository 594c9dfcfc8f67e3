import random
import unittest

import programs
from model import code
from onestepcourt.building import build
from onestepcourt.digests import Digests
from onestepcourt.errors import BadFit
from onestepcourt.machine import MARKS, Machine, first_registers, first_words
from onestepcourt.meaning import check
from onestepcourt.plain import plain
from onestepcourt.reading import parse

ONE = ("number", 1)


def words_of(text):
    """The words of an image. Its items, between commas and newlines, are instructions or numbers, with or without
    the name of their place in front of them: `load 7`, `store T0`, `T0: 0`, `on: halt`.
    """
    items = [item.split() for item in text.replace("\n", ",").split(",") if item.strip()]
    places = {}
    for place, item in enumerate(items):
        while item[0].endswith(":"):
            places[item.pop(0)[:-1]] = place
    words = []
    for item in items:
        if item[0].isdigit():
            words.append(int(item[0]))
        else:
            operand = item[1] if len(item) > 1 else "0"
            words.append(code(item[0], int(operand) if operand.isdigit() else places[operand]))
    return tuple(words)


class Building(unittest.TestCase):
    def built(self, text, image, pace):
        """The text has this image and this pace."""
        checked = check(parse(text))
        result = build(checked)
        self.assertIs(type(result), tuple)
        self.assertIs(type(result[0]), tuple)
        self.assertEqual(result, (words_of(image), pace), text)
        self.assertEqual(programs.image_of(checked), result)

    def main(self, body, image, pace, head=""):
        self.built(head + "main\n" + body + "\nend", image, pace)


class Images(Building):
    """Points 600 to 604, word by word."""

    def test_a_program_without_statements(self):
        self.built("main\nend", "halt", 1)
        self.built("to f()\nend\nmain\nend", "halt, 0, lit 0, back 1", 1)
        self.built("table t 3\nto f(a, b)\nend\nmain\nend", "halt, 0, lit 0, back 1, 0, 0, 0, 0, 0", 1)

    def test_numbers(self):
        self.main("tell 0", "lit 0, tell, halt", 2)
        self.main("tell 1", "lit 1, tell, halt", 2)
        self.main("tell 1023", "lit 1023, tell, halt", 2)
        self.main("tell 1024", "load 3, tell, halt, 1024", 2)
        self.main("tell 65535", "load 3, tell, halt, 65535", 2)

    def test_numbers_on_the_right_side_of_a_sign(self):
        self.main("tell 0 + 0", "lit 0, + 4, tell, halt, 0", 3)
        self.main("tell 1023 - 1023", "lit 1023, - 4, tell, halt, 1023", 3)
        self.main("tell 1024 * 1024", "load 4, * 4, tell, halt, 1024", 3)
        self.main("tell 5 / 65535", "lit 5, / 4, tell, halt, 65535", 3)

    def test_numbers_in_ascending_order_each_one_once(self):
        self.main(
            "tell 2000 + 7\ntell 7 + 65535\ntell 3000 + 3\ntell 2000 + 2000\ntell 3",
            """load C2000, + C7, tell
            lit 7, + C65535, tell
            load C3000, + C3, tell
            load C2000, + C2000, tell
            lit 3, tell
            halt
            C3: 3, C7: 7, C2000: 2000, C3000: 3000, C65535: 65535""", 3)

    def test_numbers_of_all_parts_stand_together(self):
        self.built(
            "to f()\ngive 5000\nend\nto g()\ngive 1 + 4000\nend\nmain\ntell 6000\nend",
            """load C3, tell, halt
            Rf: 0, load C2, back Rf, lit 0, back Rf
            Rg: 0, lit 1, + C1, back Rg, lit 0, back Rg
            C1: 4000, C2: 5000, C3: 6000""", 3)

    def test_let_and_set(self):
        self.main("let k = 4\nlet n = k\nk = n", "lit 4, store 7, load 7, store 8, load 8, store 7, halt, 0, 0", 2)

    def test_inputs(self):
        self.main("tell inputs", "load 239, tell, halt", 2)
        self.main("tell input(2)", "lit 2, tox, within 239, loadx 240, tell, halt", 5)
        self.main("tell input(inputs - 1)", "load 239, - 7, tox, within 239, loadx 240, tell, halt, 1", 6)

    def test_tables(self):
        self.main("tell t[3]", "lit 3, tox, bound 5, loadx 6, tell, halt, 0, 0, 0, 0, 0", 5, "table t 5\n")
        self.main(
            "tell u[0]\ntell t[1]",
            "lit 0, tox, bound 3, loadx 13, tell, lit 1, tox, bound 2, loadx 11, tell, halt, 0, 0, 0, 0, 0", 5,
            "table t 2\ntable u 3\n")
        self.main("tell t[63]", "lit 63, tox, bound 64, loadx 6, tell, halt" + ", 0" * 64, 5, "table t 64\n")

    def test_put(self):
        self.main("t[1] = 2", "lit 1, store 7, lit 2, index 7, bound 2, storex 8, halt, 0, 0, 0", 6, "table t 2\n")
        self.main(
            "t[1 + inputs] = inputs * input(0)",
            """lit 1, store T0, load 239, store T1, load T0, + T1
            store T0
            load 239, store T1, lit 0, tox, within 239, loadx 240, store T2, load T1, * T2
            index T0, bound 1, storex B
            halt
            T0: 0, T1: 0, T2: 0
            B: 0""", 19, "table t 1\n")

    def test_not(self):
        self.main("tell not not inputs", "load 239, not, not, tell, halt", 4)

    def test_each_sign(self):
        for sign in ("+", "-", "*", "/", "mod", "==", "!=", "<", "<=", ">", ">="):
            self.main(
                f"let k = 1\ntell k {sign} 9", f"lit 1, store S0, load S0, {sign} C9, tell, halt, C9: 9, S0: 0", 3)
            self.main(f"let k = 1\ntell 9 {sign} k", f"lit 1, store S0, lit 9, {sign} S0, tell, halt, S0: 0", 3)
            self.main(
                f"tell inputs {sign} inputs",
                f"load 239, store T0, load 239, store T1, load T0, {sign} T1, tell, halt, T0: 0, T1: 0", 7)

    def test_the_left_side_has_the_same_temporaries(self):
        self.main(
            "tell inputs + 1 - 3 * 2",
            "load 239, + C1, store T0, lit 3, * C2, store T1, load T0, - T1, tell, halt, C1: 1, C2: 2, T0: 0, T1: 0", 9)
        self.main(
            "tell inputs + inputs - inputs",
            """load 239, store T0, load 239, store T1, load T0, + T1
            store T0, load 239, store T1, load T0, - T1, tell, halt, T0: 0, T1: 0""", 12)

    def test_temporaries_on_the_right(self):
        self.main(
            "tell inputs - (inputs - (inputs - (not inputs)))",
            """load 239, store T0
            load 239, store T1
            load 239, store T2
            load 239, not, store T3, load T2, - T3
            store T2, load T1, - T2
            store T1, load T0, - T1
            tell, halt
            T0: 0, T1: 0, T2: 0, T3: 0""", 18)

    def test_and_and_or(self):
        self.main("tell 1 and 2", "lit 1, zero no, lit 2, zero no, lit 1, jump on, no: lit 0, on: tell, halt", 8)
        self.main("tell 1 or 2", "lit 1, some yes, lit 2, some yes, lit 0, jump on, yes: lit 1, on: tell, halt", 8)
        self.main(
            "tell 1 and 2 or 3",
            """lit 1, zero no, lit 2, zero no, lit 1, jump on, no: lit 0
            on: some yes, lit 3, some yes, lit 0, jump past, yes: lit 1
            past: tell, halt""", 14)
        # Both sides have the same temporaries.
        self.main(
            "tell inputs + inputs and inputs + inputs",
            """load 239, store T0, load 239, store T1, load T0, + T1, zero no
            load 239, store T0, load 239, store T1, load T0, + T1, zero no
            lit 1, jump on, no: lit 0
            on: tell, halt, T0: 0, T1: 0""", 18)

    def test_if(self):
        self.main("if 1\ntell 2\nend", "lit 1, zero 4, lit 2, tell, halt", 2)
        self.main("if inputs\nend", "load 239, zero 2, halt", 2)
        self.main("if 1\ntell 2\nelse\ntell 3\nend", "lit 1, zero 5, lit 2, tell, jump 7, lit 3, tell, halt", 3)
        self.main("if 1\nelse\ntell 3\nend", "lit 1, zero 3, jump 5, lit 3, tell, halt", 3)
        self.main(
            "if 1\nif 2\ntell 3\nend\nelse\nif 4\nelse\ntell 5\nend\nend",
            """lit 1, zero other, lit 2, zero on, lit 3, tell, on: jump past
            other: lit 4, zero five, jump past, five: lit 5, tell
            past: halt""", 3)

    def test_while(self):
        self.main("while 1\ntell 2\nend", "lit 1, zero 5, lit 2, tell, jump 0, halt", 3)
        self.main("tell 1\nwhile 0\nend", "lit 1, tell, lit 0, zero 5, jump 2, halt", 3)
        self.main(
            "while 1\nwhile 2\ntell 3\nend\nif 4\nend\nend",
            """one: lit 1, zero past
            two: lit 2, zero on, lit 3, tell, jump two
            on: lit 4, zero again, again: jump one
            past: halt""", 3)

    def test_calls_without_args(self):
        self.built("to f()\ngive 7\nend\nmain\ndo f()\nend", "call 2, halt, 0, lit 7, back 2, lit 0, back 2", 3)
        self.built(
            "to f()\ngive 7\nend\nmain\ntell f()\nend", "call 3, tell, halt, 0, lit 7, back 3, lit 0, back 3", 4)

    def test_calls_with_one_arg(self):
        self.built("to f(a)\nend\nmain\ndo f(5)\nend", "lit 5, store 7, call 4, halt, 0, lit 0, back 4, 0", 5)
        self.built(
            "to f(a)\nlet b = a\nend\nmain\nlet k = f(5)\nend",
            """lit 5, store F0, call R, store S0, halt
            R: 0, load F0, store F1, lit 0, back R
            F0: 0, F1: 0, S0: 0""", 6)

    def test_calls_with_two_args(self):
        self.built(
            "to f(a, b)\nend\nmain\nlet k = 1\ntell f(k, inputs)\nend",
            """lit 1, store S0
            load S0, store T0, load 239, store F1, load T0, store F0, call R, tell
            halt
            R: 0, lit 0, back R
            F0: 0, F1: 0
            S0: 0, T0: 0""", 10)

    def test_calls_with_four_args(self):
        self.built(
            "to f(a, b, c, d)\nend\nmain\ndo f(1, 2, 3, 4)\nend",
            """lit 1, store T0, lit 2, store T1, lit 3, store T2, lit 4, store F3
            load T0, store F0, load T1, store F1, load T2, store F2, call R
            halt
            R: 0, lit 0, back R
            F0: 0, F1: 0, F2: 0, F3: 0
            T0: 0, T1: 0, T2: 0""", 17)

    def test_nested_calls(self):
        self.built(
            "to f(a, b)\ngive a - b\nend\nmain\ntell f(f(1, 2), f(3, inputs))\nend",
            """lit 1, store T0, lit 2, store F1, load T0, store F0, call R, store T0
            lit 3, store T1, load 239, store F1, load T1, store F0, call R, store F1
            load T0, store F0, call R
            tell, halt
            R: 0, load F0, - F1, back R, lit 0, back R
            F0: 0, F1: 0
            T0: 0, T1: 0""", 26)

    def test_calls_beside_signs(self):
        # The temporaries of the args are those behind the left side.
        self.built(
            "to f(a, b)\nend\nmain\ntell inputs + f(1, 2)\nend",
            """load 239, store T0
            lit 1, store T1, lit 2, store F1, load T1, store F0, call R
            store T1, load T0, + T1, tell, halt
            R: 0, lit 0, back R
            F0: 0, F1: 0
            T0: 0, T1: 0""", 15)
        self.built(
            "to f(a, b)\nend\nmain\ndo f(1, inputs - input(0))\nend",
            """lit 1, store T0
            load 239, store T1, lit 0, tox, within 239, loadx 240, store T2, load T1, - T2
            store F1, load T0, store F0, call R, halt
            R: 0, lit 0, back R
            F0: 0, F1: 0
            T0: 0, T1: 0, T2: 0""", 17)

    def test_calls_in_a_put(self):
        self.built(
            "table t 4\nto f(a, b)\nend\nmain\nt[f(1, 2)] = f(3, 4)\nend",
            """lit 1, store T0, lit 2, store F1, load T0, store F0, call R
            store T0
            lit 3, store T1, lit 4, store F1, load T1, store F0, call R
            index T0, bound 4, storex B
            halt
            R: 0, lit 0, back R
            F0: 0, F1: 0
            T0: 0, T1: 0
            B: 0, 0, 0, 0""", 22)

    def test_functions(self):
        self.built(
            """table t 2
            to f(a)
              give a + 1
            end
            to g(a, b)
              let c = f(a)
              if c
                give t[b]
              end
              t[b] = c
            end
            main
              tell g(inputs, 1)
            end""",
            """load 239, store T0, lit 1, store G1, load T0, store G0, call Rg, tell, halt
            Rf: 0, load F0, + C, back Rf, lit 0, back Rf
            Rg: 0
            load G0, store F0, call Rf, store G2
            load G2, zero on, load G1, tox, bound 2, loadx B, back Rg
            on: load G1, store U0, load G2, index U0, bound 2, storex B
            lit 0, back Rg
            C: 1
            F0: 0
            G0: 0, G1: 0, G2: 0, U0: 0
            T0: 0
            B: 0, 0""", 10)

    def test_drawn_programs(self):
        drawn = random.Random(600)
        fitting = 0
        for _ in range(600):
            checked = check(programs.drawn_program(drawn, drawn.randint(0, 8)))
            image, pace = programs.image_of(checked)
            if len(image) > 239:
                with self.assertRaises(BadFit):
                    build(checked)
            else:
                self.assertEqual(build(checked), (image, pace))
                fitting += 1
        self.assertGreater(fitting, 300)


class Fits(Building):
    """The greatest image of point 600."""

    def test_239_words_and_240(self):
        # Each of these has two instructions, and there is one halt.
        for many in (118, 119):
            checked = check(parse("main\n" + "tell 1\n" * many + "end"))
            self.assertEqual(build(checked)[0], words_of("lit 1, tell, " * many + "halt"))
        with self.assertRaises(BadFit):
            build(check(parse("main\n" + "tell 1\n" * 119 + "if 1\nend\n" + "end")))
        with self.assertRaises(BadFit):
            build(check(parse("main\n" + "tell 1\n" * 500 + "end")))

    def test_one_word_too_many(self):
        fits = "table t 64\ntable u 64\ntable v 64\n"
        # 192 words of tables, 1 for halt: 46 words are left.
        for body, words in (
            ("tell 1\n" * 23, 46), ("tell 1\n" * 22 + "if 1\nend\n", 46), ("tell 1\n" * 22 + "let k = 1\n", 47),
            ("tell 1\n" * 21 + "tell 1 + 2\n", 46), ("tell 1\n" * 20 + "tell 1 + 2\ntell 1 + 3\n", 48),
            ("tell 1\n" * 20 + "tell 1 + 2\ntell 1 + 2\n", 47), ("tell 1\n" * 22 + "tell 1024\n", 47),
            ("tell 1\n" * 18 + "tell inputs + inputs\n", 45), ("tell 1\n" * 19 + "tell inputs + inputs\n", 47),
        ):
            checked = check(parse(fits + "main\n" + body + "end"))
            self.assertEqual(len(programs.image_of(checked)[0]), 193 + words)
            if words <= 46:
                self.assertEqual(len(build(checked)[0]), 193 + words)
            else:
                with self.assertRaises(BadFit):
                    build(checked)
        for functions, words in (("to f()\nend\n" * 1, 3), ("to f(a, b, c)\nend\n", 6)):
            for tells in range(18, 24):
                checked = check(parse(fits + functions + "main\n" + "tell 1\n" * tells + "end"))
                if 2 * tells + words <= 46:
                    self.assertEqual(len(build(checked)[0]), 193 + words + 2 * tells)
                else:
                    with self.assertRaises(BadFit):
                        build(checked)

    def test_tables_that_are_too_many(self):
        with self.assertRaises(BadFit):
            build(("checked", (64,) * 4, (), (0, 0, ())))
        self.assertEqual(build(("checked", (64, 64, 64, 46), (), (0, 0, ()))), ((1024,) + (0,) * 238, 1))
        with self.assertRaises(BadFit):
            build(("checked", (64, 64, 64, 47), (), (0, 0, ())))

    def test_many_functions_and_slots(self):
        with self.assertRaises(BadFit):
            build(("checked", (), (), (0, 400, tuple(("let", slot, ONE) for slot in range(400)))))
        self.assertEqual(len(build(("checked", (), ((4, 4, ()),) * 8, (0, 0, ())))[0]), 1 + 8 * 7)


class Paces(Building):
    """Point 604."""

    def pace(self, body, pace, head=""):
        checked = check(parse(head + "main\n" + body + "\nend"))
        self.assertEqual(build(checked)[1], pace, body)

    def test_each_statement(self):
        head = "table t 2\nto f()\nend\nto g(a)\nend\nto h(a, b)\nend\n"
        for body, pace in (
            ("", 1), ("tell 1", 2), ("let k = 1", 2), ("let k = 1\nk = 2", 2), ("t[0] = 1", 6), ("if 1\nend", 2),
            ("if 1\nelse\nif 1\nend\nend", 3), ("while 1\nend", 3), ("do f()", 3), ("do g(1)", 5), ("do h(1, 2)", 9),
            ("tell f()", 4), ("tell f() + f()", 11), ("do g(f())", 7), ("do g(g(g(1)))", 13), ("t[f()] = f()", 10),
            ("if f()\nend", 4), ("while f() + 1\nend", 6), ("tell f() and f()", 12), ("tell not f()", 5),
            ("tell input(f())", 7), ("tell t[f()]", 7), ("let k = g(f())", 8),
        ):
            self.pace(body, pace, head)

    def test_the_greatest_one(self):
        self.pace("tell 1\nt[0] = 1\ntell 2", 6, "table t 1\n")
        self.pace("if 1\nwhile 1\nt[0] = 1\nend\nend", 6, "table t 1\n")
        self.pace("if 1\nelse\nt[0] = 1\nend", 6, "table t 1\n")

    def test_statements_in_bodies_count_for_themselves_alone(self):
        self.pace("if 1\n" + "tell 1\n" * 20 + "end", 2)
        self.pace("while 1\n" + "tell 1\n" * 20 + "end", 3)
        self.pace("while 1\ndo f()\ndo f()\ndo f()\nend", 3, "to f()\nend\n")
        self.pace("if f()\ndo f()\nelse\ndo f()\nend", 5, "to f()\nend\n")
        self.pace("if 1\nif 1\ntell f()\nend\nelse\ntell 1\nend\ntell 1", 4, "to f()\nend\n")

    def test_statements_of_functions_count_too(self):
        self.pace("", 6, "table t 1\nto f()\nt[0] = 1\nend\n")
        self.pace("tell 1", 5, "to f(a)\nend\nto g()\ndo f(1)\nend\n")
        self.pace("", 2, "to f()\ngive 1\nend\n")


class Runs(unittest.TestCase):
    """Point 605."""

    def promises_hold(self, checked, inputs, most):
        """The three promises, for all numbers of steps and units up to the most; returns the last mark."""
        image, pace = build(checked)
        results = [plain(checked, inputs, units) for units in range(most + 1)]
        machine = Machine(Digests(61, None), first_registers(), first_words(image, inputs))
        halted_behind = None
        for steps in range(pace * most + 2):
            mark = MARKS[machine.registers()[3]]
            if steps <= most:
                if mark != "long":
                    self.assertEqual(results[steps], (machine.told(), mark))
                self.assertEqual(results[steps][0][:len(machine.told())], machine.told())
            if mark != "long" and halted_behind is None:
                halted_behind = steps
            if halted_behind is not None and steps > most:
                break
            machine.step()
        for units, (told, mark) in enumerate(results):
            if mark != "long":
                self.assertIsNotNone(halted_behind)
                self.assertLessEqual(halted_behind, pace * units + 1)
                self.assertEqual((machine.told(), MARKS[machine.registers()[3]]), (told, mark))
        return results[-1][1]

    def test_programs_with_each_mark(self):
        for body, mark in (
            ("", "done"), ("tell 1", "done"), ("tell 1\ntell 1 / (inputs - 2)", "divided"), ("tell t[inputs]", "place"),
            ("t[inputs] = 1", "place"), ("tell input(inputs)", "input"), ("while 1\ntell 5\nend", "full"),
            ("while 1\nend", "long"), ("let k = 0\nwhile k < inputs\ntell input(k)\nk = k + 1\nend", "done"),
            ("tell f(1) + f(f(2))\ndo f(3)", "done"), ("if f(0)\ntell 1\nelse\ntell 2\nend", "done"),
            ("while f(1)\ndo f(2)\nend", "long"), ("tell f(1) and f(0) or f(5)", "done"),
            ("tell f(1 mod 0)", "divided"),
        ):
            checked = check(parse("table t 2\nto f(a)\nt[0] = t[0] + a\ngive a * 2\nend\nmain\n" + body + "\nend"))
            self.assertEqual(self.promises_hold(checked, (8, 9), 70), mark, body)

    def test_functions_that_are_called_again_and_again(self):
        checked = check(parse(
            "table t 3\nto f(a, b)\nlet c = a - b\nif c\nlet d = c\nd = d + 1\ngive d\nend\nend\n"
            "to g(a)\nlet k = 0\nwhile k < a\nt[k] = f(k, f(a, k))\nk = k + 1\nend\n"
            "give t[0] + f(f(1, 2), f(2, 1))\nend\nmain\nlet n = 1\nwhile n < 5\ntell g(n)\nn = n + 1\nend\nend"))
        self.assertEqual(self.promises_hold(checked, (), 300), "place")

    def test_drawn_programs(self):
        drawn = random.Random(605)
        marks = {}
        for _ in range(600):
            checked = check(programs.drawn_program(drawn, drawn.randint(0, 8)))
            inputs = tuple(drawn.choice((0, 1, 2, 3, 9, 65535)) for _ in range(drawn.choice((0, 1, 2, 4, 16))))
            if len(programs.image_of(checked)[0]) <= 239:
                mark = self.promises_hold(checked, inputs, drawn.choice((10, 40, 80)))
                marks[mark] = marks.get(mark, 0) + 1
        self.assertEqual(sorted(marks), ["divided", "done", "full", "input", "long", "place"])
        self.assertGreater(min(marks.values()), 4)

    def test_greatest_images(self):
        checked = ("checked", (64, 64, 64), (), (0, 1, (
            ("let", 0, ("number", 0)), ("put", 2, ("number", 63), ("number", 7)),
            ("put", 0, ("number", 0), ("at", 2, ("number", 63))),
            ("tell", ("at", 0, ("slot", 0))), ("tell", ("at", 1, ("number", 63))))))
        self.assertEqual(self.promises_hold(checked, tuple(range(16)), 30), "done")


if __name__ == "__main__":
    unittest.main()
