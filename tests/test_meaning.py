import random
import unittest

import programs
import sources
from onestepcourt.checked import is_checked
from onestepcourt.errors import BadProgram, BadTree
from onestepcourt.meaning import check, source
from onestepcourt.reading import parse

ONE = ("number", 1)
TWO = ("number", 2)
K, N = ("name", "k"), ("name", "n")
S0, S1, S2, S3 = ("slot", 0), ("slot", 1), ("slot", 2), ("slot", 3)


def body_of(text):
    """The checked main part of the lines of its body."""
    return check(parse("main\n" + text + "\nend"))[3]


def in_main(*statements, slots=0, sizes=(), functions=()):
    """A value like a checked tree with these statements in its main part."""
    return ("checked", sizes, functions, (0, slots, statements))


class Checking(unittest.TestCase):
    """Points 508 and 510."""

    def test_the_least_tree(self):
        self.assertEqual(check(("program", (), (), ())), ("checked", (), (), (0, 0, ())))

    def test_each_statement_and_expression(self):
        tree = parse(
            "table t 3\ntable u 64\nto f()\ngive 1\nend\nto g(a, b)\nlet c = a - b\nb = f()\ntell c\ngive t[b]\nend\n"
            "main\nlet k = inputs\nk = not k\nu[k] = input(k) + t[0]\nif k or 1\ndo f()\nelse\ndo g(k, 2)\nend\n"
            "while k and g(k, f()) != 65535\ntell k mod 7\nend\nend")
        self.assertEqual(check(tree), (
            "checked", (3, 64),
            ((0, 0, (("give", ONE),)),
             (2, 3, (("let", 2, ("op", "-", S0, S1)), ("set", 1, ("call", 0, ())), ("tell", S2),
                     ("give", ("at", 0, S1))))),
            (0, 1, (
                ("let", 0, ("inputs",)), ("set", 0, ("not", S0)),
                ("put", 1, S0, ("op", "+", ("input", S0), ("at", 0, ("number", 0)))),
                ("if", ("or", S0, ONE), (("do", 0, ()),), (("do", 1, (S0, TWO)),)),
                ("while", ("and", S0, ("op", "!=", ("call", 1, (S0, ("call", 0, ()))), ("number", 65535))),
                 (("tell", ("op", "mod", S0, ("number", 7))),))))))

    def test_each_sign_stays(self):
        for sign in sources.SIGNS:
            tree = ("program", (), (), (("tell", ("op", sign, ONE, TWO)),))
            self.assertEqual(check(tree), in_main(("tell", ("op", sign, ONE, TWO))))

    def test_slots_in_the_order_of_the_text(self):
        self.assertEqual(
            body_of("let a = 1\nif a\nlet b = a\nwhile b\nlet c = b\nend\nelse\nlet d = a\nlet e = d\nend\nlet b = a"),
            (0, 6, (
                ("let", 0, ONE),
                ("if", S0, (("let", 1, S0), ("while", S1, (("let", 2, S1),))), (("let", 3, S0), ("let", 4, S3))),
                ("let", 5, S0))))

    def test_slots_of_params(self):
        for many in range(5):
            names = ("a", "b", "c", "d")[:many]
            body = tuple(("tell", ("name", name)) for name in names) + (("let", "k", ONE), ("set", "k", K))
            expected = tuple(("tell", ("slot", slot)) for slot in range(many))
            expected += (("let", many, ONE), ("set", many, ("slot", many)))
            self.assertEqual(
                check(("program", (), (("f", names, body), ("g", names, ())), ())),
                ("checked", (), ((many, many + 1, expected), (many, many, ())), (0, 0, ())))

    def test_each_function_and_the_main_part_have_slots_of_their_own(self):
        tree = parse("to f(a)\nlet k = a\nend\nto g(k, a)\nlet b = a\nend\nmain\nlet k = 1\nlet b = k\nend")
        self.assertEqual(check(tree), (
            "checked", (), ((1, 2, (("let", 1, S0),)), (2, 3, (("let", 2, S1),))),
            (0, 2, (("let", 0, ONE), ("let", 1, S0)))))

    def test_one_name_for_a_variable_a_table_and_a_function(self):
        tree = parse("table a 2\nto a(a)\na[a] = a\ngive a[a]\nend\nmain\nlet a = a(a[1])\na = a(a)\ndo a(a)\nend")
        self.assertEqual(check(tree), (
            "checked", (2,), ((1, 1, (("put", 0, S0, S0), ("give", ("at", 0, S0)))),),
            (0, 1, (("let", 0, ("call", 0, (("at", 0, ONE),))), ("set", 0, ("call", 0, (S0,))), ("do", 0, (S0,))))))

    def test_a_name_used_again_where_the_first_variable_is_not_open(self):
        self.assertEqual(
            body_of("if 1\nlet k = 1\nelse\nlet k = 2\nend\nwhile 1\nlet k = 1\ntell k\nend\nlet k = 2\ntell k"),
            (0, 4, (
                ("if", ONE, (("let", 0, ONE),), (("let", 1, TWO),)), ("while", ONE, (("let", 2, ONE), ("tell", S2))),
                ("let", 3, TWO), ("tell", S3))))

    def test_variables_of_outer_bodies(self):
        self.assertEqual(
            body_of("let k = 1\nif k\nk = 2\nwhile k\ntell k\nend\nelse\ntell k\nend\ntell k"),
            (0, 1, (
                ("let", 0, ONE),
                ("if", S0, (("set", 0, TWO), ("while", S0, (("tell", S0),))), (("tell", S0),)), ("tell", S0))))

    def test_the_places_of_tables_and_functions(self):
        text = "".join(f"table t{k} {k + 1}\n" for k in range(8)) + "".join(f"to f{k}()\nend\n" for k in range(8))
        calls = "".join(f"do f{k}()\n" for k in range(8)) + "".join(f"tell t{k}[0]\n" for k in range(8))
        self.assertEqual(check(parse(text + "main\n" + calls + "end")), (
            "checked", tuple(range(1, 9)), ((0, 0, ()),) * 8,
            (0, 0, tuple(("do", k, ()) for k in range(8)) + tuple(("tell",
                                                                   ("at", k, ("number", 0))) for k in range(8)))))

    def test_functions_may_call_all_that_stand_above_them(self):
        tree = parse("to f()\nend\nto g(a)\ngive f()\nend\nto h()\ndo f()\ngive g(f())\nend\nmain\ndo h()\nend")
        self.assertEqual(check(tree)[2], (
            (0, 0, ()), (1, 1, (("give", ("call", 0, ())),)),
            (0, 0, (("do", 0, ()), ("give", ("call", 1, (("call", 0, ()),)))))))

    def test_drawn_programs(self):
        drawn = random.Random(508)
        for _ in range(400):
            tree = programs.drawn_program(drawn, drawn.randint(0, 8))
            self.assertTrue(sources.is_source(tree))
            self.assertIsNotNone(programs.checked_of(tree))
            self.assertEqual(check(tree), programs.checked_of(tree))


class Rules(unittest.TestCase):
    """Point 509, for source trees."""

    def broken(self, text):
        with self.assertRaises(BadProgram, msg=text) as raised:
            check(parse(text))
        self.assertIs(type(raised.exception.reason), str)
        self.assertNotEqual(raised.exception.reason, "")

    def test_variables_that_are_not_open(self):
        for body in (
            "tell k", "k = 1", "let k = k", "let n = k", "k = k", "tell 1 + k", "if k\nend", "while k\nend",
            "tell t[k]",
            "t[k] = 1", "t[1] = k", "do g(k)", "tell g(k)", "tell input(k)", "tell not k", "tell 1 or k",
            "tell k and 1",
            "if 1\nlet k = 1\nend\ntell k", "if 1\nlet k = 1\nend\nk = 1", "while 1\nlet k = 1\nend\ntell k",
            "if 1\nlet k = 1\nelse\ntell k\nend", "if 1\nelse\nlet k = 1\nend\ntell k", "tell k\nlet k = 1",
            "while k\nlet k = 1\nend", "let k = 1 + k", "let k = g(k)", "let K = 1\ntell k",
            "if 1\nif 1\nlet k = 1\nend\ntell k\nend",
            "tell t", "tell g", "t = 1", "g = 1", "tell a",
        ):
            head = "table t 2\nto g(a)\nend\n"
            self.broken(head + "main\n" + body + "\nend")
            if body != "tell a":
                self.broken(head + "to h(a)\n" + body + "\nend\nmain\nend")

    def test_a_let_of_an_open_variable(self):
        for body in (
            "let k = 1\nlet k = 2", "let k = 1\nif 1\nlet k = 2\nend", "let k = 1\nif 1\nelse\nlet k = 2\nend",
            "let k = 1\nwhile 1\nlet k = 2\nend", "if 1\nlet k = 1\nwhile 1\nlet k = 1\nend\nend",
            "let k = 1\nlet k = k",
            "while 1\nlet k = 1\nlet k = 1\nend",
        ):
            self.broken("main\n" + body + "\nend")
            self.broken("to f()\n" + body + "\nend\nmain\nend")
        self.broken("to f(k)\nlet k = 1\nend\nmain\nend")
        self.broken("to f(a, b, c, k)\nif 1\nlet k = 1\nend\nend\nmain\nend")

    def test_functions_at_their_own_place_or_above_it(self):
        for call in ("do f()", "tell f()", "let k = 1 + f()", "if 1\nwhile 1\ngive f()\nend\nend"):
            self.broken("to f()\n" + call + "\nend\nmain\nend")
            self.broken("to g()\n" + call + "\nend\nto f()\nend\nmain\nend")
            check(parse("to f()\nend\nto g()\n" + call + "\nend\nmain\nend"))

    def test_the_number_of_args(self):
        for params in range(5):
            head = "to f(" + ", ".join(["a", "b", "c", "d"][:params]) + ")\nend\n"
            for args in range(5):
                call = "f(" + ", ".join(["1"] * args) + ")"
                for line in ("do " + call, "tell 1 + " + call):
                    for text in (head + "main\n" + line + "\nend", head + "to g()\n" + line + "\nend\nmain\nend"):
                        if args == params:
                            check(parse(text))
                        else:
                            self.broken(text)

    def test_give_in_the_main_part(self):
        for body in ("give 1", "if 1\ngive 1\nend", "if 1\nelse\ngive 1\nend", "while 1\nif 1\ngive 1\nend\nend"):
            self.broken("main\n" + body + "\nend")
            self.broken("to f()\n" + body + "\nend\nmain\n" + body + "\nend")
            check(parse("to f()\n" + body + "\nend\nmain\nend"))

    def test_names_twice(self):
        self.broken("table t 1\ntable t 1\nmain\nend")
        self.broken("table t 1\ntable u 1\ntable t 2\nmain\nend")
        self.broken("to f()\nend\nto f()\nend\nmain\nend")
        self.broken("to f()\nend\nto g()\nend\nto f(a)\nend\nmain\nend")
        self.broken("to f(a, a)\nend\nmain\nend")
        self.broken("to f(a, b, c, a)\nend\nmain\nend")

    def test_unknown_tables_and_functions(self):
        for line in ("t[0] = 1", "tell t[0]", "tell k[1]", "do h()", "tell h()", "tell 1 + (not u[0])", "let k = h(1)"):
            self.broken("table u1 3\nto f()\nend\nmain\n" + line + "\nend")
        self.broken("table t 1\nto f()\nend\nmain\ntell t()\nend")
        self.broken("table t 1\nto f()\nend\nmain\ntell f[0]\nend")
        self.broken("table t 1\nto f()\nend\nmain\nf[0] = 1\nend")
        self.broken("table t 1\nto f(a)\nend\nmain\ndo a()\nend")
        self.broken("to f(a)\ntell a[0]\nend\nmain\nend")

    def test_values_that_are_no_source_trees(self):
        for value in (
            None, True, 0, "main\nend", (), [], ("program", (), ()), ("program", [], (), ()), ["program", (), (), ()],
            ("checked", (), (), (0, 0, ())), ("program", (), (), (("tell", ("slot", 0)),)),
            ("program", (), (), (("tell", ("name", "end")),)), ("program", (), (), (("tell", ("number", True)),)),
            ("program", (("t", 0), ("t", 0)), (), ()), ("program", (), (), (("tell", ("call", "f", (ONE,) * 5)),)),
            ("program", (("t", 1),) * 9, (), ()),
        ):
            with self.assertRaises(BadTree):
                check(value)
        drawn = random.Random(509)
        for value in list(sources.changed(sources.drawn_tree(drawn)))[::5]:
            if not sources.is_source(value):
                with self.assertRaises(BadTree):
                    check(value)

    def test_trees_with_one_part_changed(self):
        """A source tree either breaks a rule, or has the checked tree that is reckoned here."""
        drawn = random.Random(5090)
        found = {True: 0, False: 0}
        for _ in range(40):
            for value in list(sources.changed(programs.drawn_program(drawn)))[::11]:
                if not sources.is_source(value):
                    continue
                expected = programs.checked_of(value)
                if expected is None:
                    with self.assertRaises(BadProgram):
                        check(value)
                else:
                    self.assertEqual(check(value), expected)
                found[expected is None] += 1
        self.assertGreater(min(found.values()), 100)


STATEMENTS = (
    ("let", 0, ONE), ("put", 0, ONE, TWO), ("if", ONE, (("tell", ONE),), (("tell", TWO),)), ("if", ONE, (), ()),
    ("while", ONE, (("tell", ONE),)), ("tell", ONE), ("do", 0, ()), ("do", 1, (ONE, TWO)),
)
EXPRESSIONS = (
    ("or", ONE, TWO), ("and", ONE, TWO), ("not", ONE), ("number", 0), ("number", 65535), ("inputs",), ("at", 0, ONE),
    ("call", 0, ()), ("call", 1, (ONE, TWO)), ("input", ONE),
) + tuple(("op", sign, ONE, TWO) for sign in sources.SIGNS)
HEAD = {"sizes": (4, 64), "functions": ((0, 0, ()), (2, 3, (("let", 2, S1), ("set", 0, S2), ("give", S0))))}


class Checked(unittest.TestCase):
    """The values that are checked trees."""

    def yes(self, value):
        self.assertIs(is_checked(value), True, value)
        self.assertEqual(check(source(value)), value)

    def no(self, value):
        self.assertIs(is_checked(value), False, value)
        with self.assertRaises(BadTree):
            source(value)

    def test_each_statement_and_expression(self):
        self.yes(in_main())
        for statement in STATEMENTS:
            self.yes(in_main(statement, slots=int(statement[0] == "let"), **HEAD))
        for expression in EXPRESSIONS:
            self.yes(in_main(("tell", expression), **HEAD))
            self.yes(in_main(("let", 0, expression), ("set", 0, S0), ("tell", S0), slots=1, **HEAD))
        self.yes(("checked", (), ((1, 1, (("give", S0), ("tell", S0))),), (0, 0, ())))

    def test_values_that_are_nothing_like_a_checked_tree(self):
        for value in (
            None, True, 0, "", "checked", (), [], {}, object(), ("checked",), ("checked", (), ()),
            ("checked", (), (), ()), ("checked", (), (), (0, 0)), ("checked", (), (), (0, 0, (), ())),
            ["checked", (), (), (0, 0, ())], ("checked", [], (), (0, 0, ())), ("checked", (), [], (0, 0, ())),
            ("checked", (), (), [0, 0, ()]), ("checked", (), (), (0, 0, [])), ("program", (), (), (0, 0, ())),
            ("program", (), (), ()), (True, (), (), (0, 0, ())), ("checked", None, (), (0, 0, ())),
            ("checked", (), None, (0, 0, ())), ("checked", (), (), None), ("checked", (), (), (0, 0, None)),
            ("checked", (), (), (0, 0, ()), ()), ("checked", (), (), (False, 0, ())),
            ("checked", (), (), (0, False, ())),
            ("checked", (), (), (1, 1, ())), ("checked", (), (), (0, 1, ())), ("checked", (), (), (0, -1, ())),
            ("checked", (), (), (0, 10 ** 6000, ())), ("checked", (), (), (-1, 0, ())),
            ("checked", (), (), (0, 0.0, ())),
            ("checked", (), ((), ()), (0, 0, ())), ("checked", (), ((0, 0),), (0, 0, ())),
            ("checked", (), ((0, 0, (), ()),), (0, 0, ())), ("checked", (), ([0, 0, ()],), (0, 0, ())),
        ):
            self.no(value)

    def test_values_that_cannot_be_compared_or_hashed(self):
        class Wild:
            def __eq__(self, other):
                raise RuntimeError

            __hash__ = None

        wild = Wild()
        for value in (
            wild, (wild,), (wild, (), (), (0, 0, ())), ("checked", (wild,), (), (0, 0, ())),
            ("checked", (), (wild,), (0, 0, ())), ("checked", (), (), wild), ("checked", (), (), (wild, wild, wild)),
            ("checked", (), ((wild, wild, ()),), (0, 0, ())), in_main(wild), in_main((wild,)),
            in_main(("tell", (wild,))),
            in_main(("tell", ("slot", wild))), in_main(("tell", ("slot", []))),
            in_main(("tell", ("op", wild, ONE, ONE))),
            in_main(("let", wild, ONE), slots=1), in_main(("do", wild, ())), in_main(("tell", ("at", {}, ONE))),
        ):
            self.no(value)

    def test_sizes(self):
        for size in (1, 2, 64):
            self.yes(in_main(sizes=(size,)))
        for size in (0, 65, -1, True, 1.0, "1", None, (1,), ("t", 1)):
            self.no(in_main(sizes=(size,)))

    def test_numbers(self):
        for number in (0, 1, 1023, 1024, 65535):
            self.yes(in_main(("tell", ("number", number))))
        for number in (-1, 65536, True, False, 1.0, "1", None):
            self.no(in_main(("tell", ("number", number))))

    def test_bounds(self):
        for many in (0, 1, 8):
            self.yes(in_main(sizes=(1,) * many))
            self.yes(in_main(functions=((0, 0, ()),) * many))
        for many in (9, 10, 30):
            self.no(in_main(sizes=(1,) * many))
            self.no(in_main(functions=((0, 0, ()),) * many))
        for many in range(8):
            value = in_main(("do", 0, (ONE,) * many), functions=((many, many, ()),))
            if many <= 4:
                self.yes(value)
            else:
                self.no(value)

    def test_the_depth(self):
        e, statement = ONE, ("do", 0, ())
        for levels in range(1, 16):
            for value in (in_main(("tell", e)), in_main(("let", 0, e), slots=1),
                          ("checked", (), ((0, 0, (("give", e),)),), (0, 0, ()))):
                if levels <= 11:
                    self.yes(value)
                else:
                    self.no(value)
            value = in_main(statement, functions=((0, 0, ()),))
            if levels <= 12:
                self.yes(value)
            else:
                self.no(value)
            e = ("not", e)
            statement = ("while", ONE, (statement,))

    def test_values_that_are_nested_without_end(self):
        deep, body = ONE, ()
        for _ in range(100000):
            deep, body = ("not", deep), (("while", ONE, body),)
        self.no(in_main(("tell", deep)))
        self.no(in_main(*body))

    def test_names_are_no_part_of_a_checked_tree(self):
        for statement in (("let", "k", ONE), ("set", "k", ONE), ("put", "t", ONE, ONE), ("do", "f", ()), ("tell", K),
                          ("tell", ("name", 0)), ("tell", ("at", "t", ONE)), ("tell", ("call", "f", ()))):
            self.no(in_main(statement, slots=1, **HEAD))
            self.no(in_main(("let", 0, ONE), statement, slots=1, **HEAD))

    def test_slots_that_are_not_numbered_in_the_order_of_the_text(self):
        let = [("let", slot, ONE) for slot in range(5)]
        self.yes(in_main(let[0], let[1], slots=2))
        for slots in (0, 1, 3, True):
            self.no(in_main(let[0], let[1], slots=slots))
        self.no(in_main(let[1], let[0], slots=2))
        self.no(in_main(let[1], slots=1))
        self.no(in_main(let[1], slots=2))
        self.no(in_main(let[0], let[0], slots=1))
        self.no(in_main(let[0], let[2], slots=3))
        self.no(in_main(("let", False, ONE), slots=1))
        self.no(in_main(let[0], ("let", True, ONE), slots=2))
        self.yes(in_main(("if", ONE, (let[0],), (let[1],)), let[2], slots=3))
        self.no(in_main(("if", ONE, (let[1],), (let[0],)), let[2], slots=3))
        self.no(in_main(("if", ONE, (let[0],), (let[0],)), slots=1))
        self.no(in_main(("if", ONE, (let[1],), (let[2],)), let[0], slots=3))
        self.yes(("checked", (), ((2, 3, (let[2],)),), (0, 0, ())))
        for slot in (0, 1, 3):
            self.no(("checked", (), ((2, 3, (let[slot],)),), (0, 0, ())))
        for slots in (0, 2, 4):
            self.no(("checked", (), ((2, slots, (let[2],)),), (0, 0, ())))
        self.no(("checked", (), ((2, 0, ()),), (0, 0, ())))

    def test_rules_that_are_broken(self):
        let = ("let", 0, ONE)
        self.no(in_main(("tell", S0)))
        self.no(in_main(("set", 0, ONE)))
        self.no(in_main(("set", 0, ONE), let, slots=1))
        self.no(in_main(("tell", S0), let, slots=1))
        self.no(in_main(("let", 0, S0), slots=1))
        self.no(in_main(("let", 0, ("op", "+", ONE, S0)), slots=1))
        for body in (("if", ONE, (let,), ()), ("if", ONE, (), (let,)), ("while", ONE, (let,))):
            self.yes(in_main(body, slots=1))
            self.no(in_main(body, ("tell", S0), slots=1))
            self.no(in_main(body, ("set", 0, ONE), slots=1))
        self.no(in_main(("if", ONE, (let,), (("tell", S0),)), slots=1))
        self.no(in_main(("tell", ("slot", -1)), let, slots=1))
        self.no(in_main(let, ("tell", ("slot", False)), slots=1))
        self.no(in_main(let, ("set", False, ONE), slots=1))
        self.no(in_main(let, ("tell", S1), slots=1))
        self.no(in_main(let, ("tell", ("slot", 10 ** 6000)), slots=1))
        self.no(in_main(("give", ONE)))
        self.no(in_main(("if", ONE, (), (("give", ONE),))))
        self.no(in_main(("put", 2, ONE, ONE), **HEAD))
        self.no(in_main(("put", -1, ONE, ONE), **HEAD))
        self.no(in_main(("put", False, ONE, ONE), **HEAD))
        self.no(in_main(("tell", ("at", 2, ONE)), **HEAD))
        self.no(in_main(("tell", ("at", True, ONE)), **HEAD))
        self.no(in_main(("do", 2, ()), **HEAD))
        self.no(in_main(("do", False, ()), **HEAD))
        self.no(in_main(("do", -2, ()), **HEAD))
        self.no(in_main(("tell", ("call", 2, ())), **HEAD))
        for args in ((), (ONE,), (ONE, ONE, ONE)):
            self.no(in_main(("do", 1, args), **HEAD))
            self.no(in_main(("tell", ("call", 1, args)), **HEAD))
        self.no(in_main(("do", 0, (ONE,)), **HEAD))

    def test_functions_that_call_themselves_or_what_stands_below(self):
        empty = (0, 0, ())
        for called in (0, 1, 2, 3):
            for statement in (("do", called, ()), ("give", ("call", called, ()))):
                functions = (empty, empty, (0, 0, (statement,)), empty)
                value = in_main(functions=functions)
                if called < 2:
                    self.yes(value)
                else:
                    self.no(value)

    def test_one_part_changed(self):
        drawn = random.Random(510)
        trees = [in_main(s, slots=int(s[0] == "let"), **HEAD) for s in STATEMENTS]
        trees += [in_main(("let", 0, e), ("tell", S0), slots=1, **HEAD) for e in EXPRESSIONS]
        trees += [check(programs.drawn_program(drawn)) for _ in range(25)]
        found = {True: 0, False: 0}
        for tree in trees:
            self.assertTrue(programs.is_right(tree))
            for value in list(sources.changed(tree))[::7]:
                expected = programs.is_right(value)
                self.assertIs(is_checked(value), expected, value)
                found[expected] += 1
        self.assertGreater(found[True], 50)
        self.assertGreater(found[False], 1000)

    def test_numbers_changed(self):
        """Other slots, tables, functions and counts, which still are integers."""
        drawn = random.Random(5100)
        found = {True: 0, False: 0}
        for _ in range(60):
            tree = check(programs.drawn_program(drawn))
            for _ in range(60):
                value = self.with_another_number(drawn, tree)
                expected = programs.is_right(value)
                self.assertIs(is_checked(value), expected, value)
                found[expected] += 1
        self.assertGreater(min(found.values()), 300)

    def with_another_number(self, drawn, value):
        if type(value) is int:
            return drawn.choice((value + 1, value - 1, 0, 1, 2))
        if not isinstance(value, tuple) or value == ():
            return value
        place = drawn.randrange(len(value))
        return value[:place] + (self.with_another_number(drawn, value[place]),) + value[place + 1:]


class Arguments(unittest.TestCase):
    def test_arguments_are_not_modified(self):
        """Tuples cannot be; lists in values that are no trees could."""
        values = [
            ["program", (), (), ()], ("program", [("t", 1)], [], [("tell", ONE)]), ("checked", [4], [], [0, 0, []]),
            ("checked", (), (), (0, 0, [("tell", ONE)])), ("checked", (), (), (0, 0, (["tell", ONE],))),
        ]
        before = repr(values)
        for value in values:
            self.assertIs(is_checked(value), False)
            for function in (check, source):
                with self.assertRaises(BadTree):
                    function(value)
        self.assertEqual(repr(values), before)


class Sources(unittest.TestCase):
    """The source trees of checked trees."""

    def test_names(self):
        self.assertEqual(
            source(("checked", (3, 4), ((2, 3, (("let", 2, S1), ("set", 0, S2), ("give", ("at", 1, S0)))), (0, 0, ())),
                    (0, 1, (
                ("let", 0, ("call", 0, (ONE, ("inputs",)))), ("put", 1, S0, ("input", S0)), ("do", 1, ()),
                ("if", ("not", S0), (("tell", ("or", S0, ONE)),), (("tell", ("and", ONE, S0)),)),
                ("while", ("op", "<", S0, TWO), ()))))),
            ("program", (("t0", 3), ("t1", 4)),
             (("f0", ("v0", "v1"), (("let", "v2", ("name", "v1")), ("set", "v0", ("name", "v2")),
                                    ("give", ("at", "t1", ("name", "v0"))))),
              ("f1", (), ())), (
                 ("let", "v0", ("call", "f0", (ONE, ("inputs",)))),
                 ("put", "t1", ("name", "v0"), ("input", ("name", "v0"))), ("do", "f1", ()),
                 ("if", ("not", ("name", "v0")), (("tell", ("or", ("name", "v0"), ONE)),),
                  (("tell", ("and", ONE, ("name", "v0"))),)),
                 ("while", ("op", "<", ("name", "v0"), TWO), ()))))

    def test_the_least_tree(self):
        self.assertEqual(source(("checked", (), (), (0, 0, ()))), ("program", (), (), ()))

    def test_many_slots(self):
        many = 1200
        value = in_main(*(("let", slot, ONE) for slot in range(many)), slots=many)
        tree = source(value)
        self.assertEqual(tree[3][-1], ("let", "v1199", ONE))
        self.assertEqual(check(tree), value)

    def test_the_checked_tree_comes_back(self):
        drawn = random.Random(5101)
        for _ in range(300):
            value = check(programs.drawn_program(drawn, drawn.randint(0, 8)))
            tree = source(value)
            self.assertTrue(sources.is_source(tree))
            self.assertEqual(check(tree), value)

    def test_values_that_are_no_checked_trees(self):
        for value in (None, True, 0, "", (), [], ("program", (), (), ()), in_main(("tell", S0)), in_main(slots=1),
                      ["checked", (), (), (0, 0, ())]):
            with self.assertRaises(BadTree):
                source(value)


if __name__ == "__main__":
    unittest.main()
