import random
import unittest

import model
import reckoning
from model import Model, code
from reckoning import ALL_BITS, ListBook
from onestepcourt.digests import Digests
from onestepcourt.machine import (
    COUNTED, FIRST_OUT, GIVEN, MARKS, MOST_IMAGE, NAMES, Machine, data_of, done_by, first_registers, first_words,
    out_of,
)
from onestepcourt.words import SIGNS

FULL = (7,) * 256


def words_with(changes):
    """A memory in which each word tells its place, but for the changes."""
    words = [1000 + place for place in range(256)]
    for place, word in changes.items():
        words[place] = word
    return tuple(words)


def registers_with(pc=0, acc=0, x=0, mark=0, out=7, count=0):
    return (pc, acc, x, mark, out, count)


class Names(unittest.TestCase):
    def test_names(self):
        self.assertEqual(NAMES, (
            "bad", "halt", "lit", "load", "store", "loadx", "storex", "tox", "index", "bound", "within", "not",
            "+", "-", "*", "/", "mod", "==", "!=", "<", "<=", ">", ">=",
            "jump", "zero", "some", "call", "back", "tell"))
        self.assertEqual(len(NAMES), 29)
        self.assertEqual(NAMES[12:23], SIGNS)

    def test_marks(self):
        self.assertEqual(MARKS, ("long", "done", "divided", "place", "input", "full", "bad"))

    def test_numbers(self):
        self.assertEqual((FIRST_OUT, COUNTED, GIVEN, MOST_IMAGE), (7, 239, 240, 239))


class Starts(unittest.TestCase):
    def test_first_registers(self):
        self.assertEqual(first_registers(), (0, 0, 0, 0, 7, 0))

    def test_empty_image_and_no_inputs(self):
        self.assertEqual(first_words((), ()), (0,) * 256)

    def test_an_image_and_inputs(self):
        words = first_words((5, 6, 7), (65535, 9))
        self.assertIs(type(words), tuple)
        self.assertEqual(words, (5, 6, 7) + (0,) * 236 + (2, 65535, 9) + (0,) * 14)

    def test_the_longest_image(self):
        image = tuple(range(1, 240))
        self.assertEqual(first_words(image, ()), image + (0,) * 17)
        self.assertEqual(first_words(image, (8,)), image + (1, 8) + (0,) * 15)

    def test_the_most_inputs(self):
        inputs = tuple(range(100, 116))
        self.assertEqual(first_words((), inputs), (0,) * 239 + (16,) + inputs)
        self.assertEqual(first_words((1,) * 239, inputs), (1,) * 239 + (16,) + inputs)

    def test_inputs_of_0(self):
        self.assertEqual(first_words((3,), (0, 0, 0)), (3,) + (0,) * 238 + (3,) + (0,) * 16)

    def test_somewhat_more_is_no_error(self):
        self.assertEqual(len(first_words((1,) * 241, (2,) * 18)), 256)

    def test_out_by_hand(self):
        for bits in ALL_BITS:
            self.assertEqual(out_of(Digests(bits, None), ()), 7)
            self.assertEqual(out_of(Digests(bits, None), (0,)), reckoning.fold(bits, 7, 11))

    def test_out(self):
        for bits in ALL_BITS:
            for words in ((1,), (1, 2), (2, 1), (65535,) * 16, tuple(range(0, 640, 40)), (0, 0, 0)):
                self.assertEqual(out_of(Digests(bits, None), words), reckoning.out_of(bits, words), (bits, words))

    def test_out_is_told_to_a_book(self):
        book = ListBook()
        out_of(Digests(31, book), (5, 6))
        five, six = reckoning.leaf(31, 5), reckoning.leaf(31, 6)
        first = reckoning.fold(31, 7, five)
        self.assertEqual(
            book.told,
            [("leaf", 5, five), ("fold", (7, five), first),
             ("leaf", 6, six), ("fold", (first, six), reckoning.fold(31, first, six))])

    def test_the_digest_of_a_state(self):
        for bits in ALL_BITS:
            for registers, words in (
                (first_registers(), first_words((), ())),
                (first_registers(), first_words((1, 2, 3), (4, 5))),
                ((255, 65535, 65534, 6, 100, 16), words_with({})),
            ):
                machine = Machine(Digests(bits, None), registers, words)
                root = reckoning.root(bits, reckoning.leaves(bits, words))
                self.assertEqual(machine.root(), root)
                self.assertEqual(machine.digest(), reckoning.state(bits, registers + (root,)))

    def test_the_order_in_the_digest(self):
        machine = Machine(Digests(61, None), (1, 2, 3, 4, 5, 6), (0,) * 256)
        self.assertEqual(machine.digest(), reckoning.state(61, (1, 2, 3, 4, 5, 6, machine.root())))
        self.assertNotEqual(machine.digest(), reckoning.state(61, (2, 1, 3, 4, 5, 6, machine.root())))

    def test_what_a_machine_tells_of_itself(self):
        words = words_with({3: 4})
        registers = (1, 2, 3, 4, 5, 6)
        machine = Machine(Digests(13, None), registers, words)
        self.assertEqual(machine.registers(), registers)
        self.assertEqual(machine.words(), words)
        self.assertEqual(machine.told(), ())
        row = reckoning.leaves(13, words)
        for place in range(256):
            self.assertEqual(machine.word(place), words[place])
        for place in (0, 3, 128, 255):
            self.assertEqual(machine.path(place), reckoning.path(13, row, place))


class Steps(unittest.TestCase):
    """Point 304 by hand: one step, and all that it changes."""

    def check(self, word, then, before=None, words=None, changed=None, told=()):
        """`then` has the registers that differ behind the step, `changed` the words."""
        start = registers_with(**{"pc": 10, "acc": 300, "x": 5, **(before or {})})
        memory = words_with({start[0]: word, **(words or {})})
        machine = Machine(Digests(61, None), start, memory)
        self.assertIsNone(machine.step())
        expected = registers_with(**{**dict(zip(model.ORDER, start)), **then})
        self.assertEqual(machine.registers(), expected)
        after = list(memory)
        for place, value in (changed or {}).items():
            after[place] = value
        self.assertEqual(machine.words(), tuple(after))
        self.assertEqual(machine.root(), reckoning.root(61, reckoning.leaves(61, after)))
        self.assertEqual(machine.told(), told)

    def test_bad(self):
        for word in (0, 1, 255, 256, 1023):
            self.check(word, {"mark": 6})

    def test_numbers_above_28_are_bad(self):
        for number in (29, 30, 31, 32, 40, 62, 63):
            for argument in (0, 1, 1023):
                self.check(1024 * number + argument, {"mark": 6})

    def test_halt(self):
        for argument in (0, 7, 1023):
            self.check(code("halt", argument), {"mark": 1})

    def test_lit(self):
        for argument in (0, 1, 255, 256, 257, 1022, 1023):
            self.check(code("lit", argument), {"pc": 11, "acc": argument})

    def test_load(self):
        for argument, place in ((0, 0), (20, 20), (255, 255), (256, 0), (276, 20), (1023, 255)):
            self.check(code("load", argument), {"pc": 11, "acc": 1000 + place})
        self.check(code("load", 20), {"pc": 11, "acc": 0}, words={20: 0})
        self.check(code("load", 20), {"pc": 11, "acc": 65535}, words={20: 65535})
        self.check(code("load", 10), {"pc": 11, "acc": code("load", 10)})

    def test_store(self):
        for argument, place in ((0, 0), (20, 20), (255, 255), (256, 0), (276, 20), (1023, 255)):
            self.check(code("store", argument), {"pc": 11}, changed={place: 300})
        self.check(code("store", 10), {"pc": 11}, changed={10: 300})
        self.check(code("store", 20), {"pc": 11}, {"acc": 0}, changed={20: 0})
        self.check(code("store", 20), {"pc": 11}, {"acc": 65535}, changed={20: 65535})
        self.check(code("store", 20), {"pc": 11}, {"acc": 1020})

    def test_loadx(self):
        for argument, x, place in (
            (20, 0, 20), (20, 5, 25), (255, 0, 255), (255, 1, 0), (250, 10, 4), (276, 5, 25), (1023, 65535, 254),
            (20, 256, 20), (20, 65535, 19), (0, 0, 0), (0, 255, 255), (0, 257, 1),
        ):
            self.check(code("loadx", argument), {"pc": 11, "acc": 1000 + place}, {"x": x})

    def test_storex(self):
        for argument, x, place in (
            (20, 0, 20), (20, 5, 25), (255, 0, 255), (255, 1, 0), (250, 10, 4), (276, 5, 25), (1023, 65535, 254),
            (20, 256, 20), (20, 65535, 19), (0, 0, 0), (0, 255, 255), (0, 257, 1), (5, 5, 10),
        ):
            self.check(code("storex", argument), {"pc": 11}, {"x": x}, changed={place: 300})

    def test_tox(self):
        for acc in (0, 300, 65535):
            for argument in (0, 77):
                self.check(code("tox", argument), {"pc": 11, "x": acc}, {"acc": acc})

    def test_index(self):
        for argument, place in ((0, 0), (20, 20), (255, 255), (256, 0), (276, 20), (1023, 255)):
            self.check(code("index", argument), {"pc": 11, "x": 1000 + place})
        self.check(code("index", 20), {"pc": 11, "x": 65535}, words={20: 65535})

    def test_bound(self):
        for argument, x in ((1, 0), (6, 5), (1023, 1022), (1023, 0), (300, 299), (257, 256)):
            self.check(code("bound", argument), {"pc": 11}, {"x": x})
        for argument, x in ((0, 0), (5, 5), (5, 6), (1023, 1023), (1023, 65535), (257, 257), (256, 256)):
            self.check(code("bound", argument), {"mark": 3}, {"x": x})

    def test_within(self):
        for word, x in ((1, 0), (6, 5), (65535, 65534), (65535, 0)):
            self.check(code("within", 20), {"pc": 11}, {"x": x}, {20: word})
        for word, x in ((0, 0), (5, 5), (5, 6), (65535, 65535), (0, 65535)):
            self.check(code("within", 20), {"mark": 4}, {"x": x}, {20: word})
        self.check(code("within", 276), {"pc": 11}, {"x": 21}, {20: 22})
        self.check(code("within", 276), {"mark": 4}, {"x": 21}, {20: 21})

    def test_not(self):
        for acc, then in ((0, 1), (1, 0), (2, 0), (65535, 0)):
            for argument in (0, 77):
                self.check(code("not", argument), {"pc": 11, "acc": then}, {"acc": acc})

    def test_signs(self):
        for sign, acc, word, then in (
            ("+", 300, 4, 304), ("+", 65535, 1, 0), ("-", 300, 4, 296), ("-", 0, 1, 65535), ("*", 300, 4, 1200),
            ("*", 256, 256, 0), ("/", 300, 7, 42), ("/", 0, 7, 0), ("mod", 300, 7, 6), ("mod", 3, 7, 3),
            ("==", 300, 300, 1), ("==", 300, 299, 0), ("!=", 300, 300, 0), ("!=", 300, 299, 1),
            ("<", 300, 300, 0), ("<", 299, 300, 1), ("<", 300, 299, 0),
            ("<=", 300, 300, 1), ("<=", 299, 300, 1), ("<=", 300, 299, 0),
            (">", 300, 300, 0), (">", 299, 300, 0), (">", 300, 299, 1),
            (">=", 300, 300, 1), (">=", 299, 300, 0), (">=", 300, 299, 1),
        ):
            for argument in (20, 276, 788):
                self.check(code(sign, argument), {"pc": 11, "acc": then}, {"acc": acc}, {20: word})

    def test_division_by_0(self):
        for sign in ("/", "mod"):
            for acc in (0, 1, 65535):
                self.check(code(sign, 20), {"mark": 2}, {"acc": acc}, {20: 0})
                self.check(code(sign, 256), {"mark": 2}, {"acc": acc}, {0: 0})

    def test_other_signs_with_0(self):
        for sign, then in (
            ("+", 300), ("-", 300), ("*", 0), ("==", 0), ("!=", 1), ("<", 0), ("<=", 0), (">", 1), (">=", 1),
        ):
            self.check(code(sign, 20), {"pc": 11, "acc": then}, words={20: 0})

    def test_jump(self):
        for argument, place in ((0, 0), (20, 20), (255, 255), (256, 0), (276, 20), (1023, 255), (10, 10)):
            for acc in (0, 300):
                self.check(code("jump", argument), {"pc": place}, {"acc": acc})

    def test_zero(self):
        for argument, place in ((0, 0), (20, 20), (255, 255), (276, 20)):
            self.check(code("zero", argument), {"pc": place}, {"acc": 0})
            self.check(code("zero", argument), {"pc": 11}, {"acc": 1})
            self.check(code("zero", argument), {"pc": 11}, {"acc": 65535})

    def test_some(self):
        for argument, place in ((0, 0), (20, 20), (255, 255), (276, 20)):
            self.check(code("some", argument), {"pc": 11}, {"acc": 0})
            self.check(code("some", argument), {"pc": place}, {"acc": 1})
            self.check(code("some", argument), {"pc": place}, {"acc": 65535})

    def test_call(self):
        for argument, place in ((0, 0), (20, 20), (254, 254), (256, 0), (276, 20)):
            self.check(code("call", argument), {"pc": place + 1}, changed={place: 11})
        self.check(code("call", 255), {"pc": 0}, changed={255: 11})
        self.check(code("call", 1023), {"pc": 0}, changed={255: 11})
        self.check(code("call", 20), {"pc": 21}, {"pc": 255}, changed={20: 0})
        self.check(code("call", 20), {"pc": 21}, {"pc": 254}, changed={20: 255})
        self.check(code("call", 10), {"pc": 11}, changed={10: 11})

    def test_back(self):
        for word, place in ((0, 0), (20, 20), (255, 255), (256, 0), (300, 44), (65535, 255)):
            self.check(code("back", 20), {"pc": place}, words={20: word})
            self.check(code("back", 276), {"pc": place}, words={20: word})

    def test_tell(self):
        for acc in (0, 300, 65535):
            out = reckoning.fold(61, 7, reckoning.leaf(61, acc))
            for count in (0, 1, 14, 15):
                then = {"pc": 11, "out": out, "count": count + 1}
                self.check(code("tell"), then, {"acc": acc, "count": count}, told=(acc,))
                self.check(code("tell", 1023), then, {"acc": acc, "count": count}, told=(acc,))

    def test_tell_when_all_is_told(self):
        for acc in (0, 300):
            self.check(code("tell"), {"mark": 5}, {"acc": acc, "count": 16})

    def test_the_place_behind_255_is_0(self):
        for name in ("load", "store", "loadx", "storex", "tox", "index", "not", "tell") + SIGNS:
            words = words_with({255: code(name, 20)})
            machine = Machine(Digests(13, None), registers_with(pc=255, acc=300, x=5), words)
            machine.step()
            self.assertEqual(machine.registers()[0], 0, name)
        for name, acc, x in (("lit", 0, 0), ("zero", 1, 0), ("some", 0, 0), ("bound", 0, 19), ("within", 0, 19)):
            words = words_with({255: code(name, 20)})
            machine = Machine(Digests(13, None), registers_with(pc=255, acc=acc, x=x), words)
            machine.step()
            self.assertEqual(machine.registers()[0], 0, name)

    def test_a_machine_that_has_halted_stays_as_it_is(self):
        for mark in range(1, 7):
            for word in (code("lit", 5), code("store", 20), code("jump", 3), code("tell"), 0, code("halt"), 65535):
                self.check(word, {}, {"mark": mark})

    def test_halting_and_then_staying(self):
        for word, acc, x, count in (
            (0, 1, 1, 0), (code("halt"), 1, 1, 0), (code("/", 20), 1, 1, 0), (code("bound", 0), 1, 1, 0),
            (code("within", 20), 1, 1, 0), (code("tell"), 1, 1, 16), (65535, 1, 1, 0),
        ):
            start = registers_with(pc=255, acc=acc, x=x, count=count)
            machine = Machine(Digests(31, None), start, words_with({255: word, 20: 0}))
            machine.step()
            halted = (machine.registers(), machine.words(), machine.root(), machine.digest(), machine.told())
            self.assertNotEqual(machine.registers()[3], 0)
            self.assertEqual(machine.registers()[:3] + machine.registers()[4:], start[:3] + start[4:])
            for _ in range(3):
                machine.step()
                self.assertEqual(
                    (machine.registers(), machine.words(), machine.root(), machine.digest(), machine.told()), halted)


class Runs(unittest.TestCase):
    def test_counting_down(self):
        image = (code("lit", 3), code("tell"), code("-", 6), code("some", 1), code("halt"), 0, 1)
        machine = Machine(Digests(61, None), first_registers(), first_words(image, ()))
        told = []
        for _ in range(30):
            machine.step()
            told.append(machine.told())
        self.assertEqual(machine.told(), (3, 2, 1))
        self.assertEqual(machine.registers(), (4, 0, 0, 1, reckoning.out_of(61, (3, 2, 1)), 3))
        self.assertEqual(told[:9], [(), (3,), (3,), (3,), (3, 2), (3, 2), (3, 2), (3, 2, 1), (3, 2, 1)])

    def test_a_function_is_called_and_comes_back(self):
        image = (code("call", 4), code("call", 4), code("tell"), code("halt"), 0, code("load", 7), code("jump", 8), 5,
                 code("+", 7), code("store", 7), code("back", 4))
        machine = Machine(Digests(61, None), first_registers(), first_words(image, ()))
        for _ in range(14):
            machine.step()
        self.assertEqual(machine.told(), (20,))
        self.assertEqual(machine.registers()[:4], (3, 20, 0, 1))
        self.assertEqual(machine.word(4), 2)

    def test_inputs_are_told(self):
        image = (code("load", 20), code("tox"), code("within", 239), code("loadx", 240), code("tell"),
                 code("load", 20), code("+", 21), code("store", 20), code("jump", 0))
        words = list(first_words(image, (9, 0, 65535)))
        words[21] = 1
        machine = Machine(Digests(61, None), first_registers(), tuple(words))
        for _ in range(100):
            machine.step()
        self.assertEqual(machine.told(), (9, 0, 65535))
        self.assertEqual(MARKS[machine.registers()[3]], "input")

    def test_sixteen_words_are_told_and_one_more_is_full(self):
        image = (code("+", 3), code("tell"), code("jump", 0), 1)
        machine = Machine(Digests(61, None), first_registers(), first_words(image, ()))
        for _ in range(48):
            machine.step()
        told = tuple(range(1, 17))
        self.assertEqual(machine.told(), told)
        self.assertEqual(machine.registers(), (0, 16, 0, 0, reckoning.out_of(61, told), 16))
        machine.step()
        machine.step()
        self.assertEqual(machine.told(), told)
        self.assertEqual(machine.registers(), (1, 17, 0, 5, reckoning.out_of(61, told), 16))

    def test_an_empty_memory_is_bad_at_once(self):
        machine = Machine(Digests(61, None), first_registers(), first_words((), ()))
        machine.step()
        self.assertEqual(machine.registers(), (0, 0, 0, 6, 7, 0))

    def test_steps_of_drawn_states(self):
        for bits in ALL_BITS:
            drawn = random.Random(304 + bits)
            digests = Digests(bits, None)
            for _ in range(400):
                registers, words = model.drawn_state(drawn, bits)
                machine, other = Machine(digests, registers, words), Model(bits, registers, words)
                for _ in range(3):
                    machine.step()
                    other.step()
                    self.assertEqual(machine.registers(), other.registers(), (bits, registers, words))
                    self.assertEqual(machine.words(), tuple(other.words))
                    self.assertEqual(machine.told(), tuple(other.told))
                self.assertEqual(machine.root(), other.root())
                self.assertEqual(machine.digest(), other.digest())

    def test_each_instruction_of_drawn_states(self):
        drawn = random.Random(29)
        digests = Digests(31, None)
        for number in range(64):
            for _ in range(40):
                registers, words = model.drawn_state(drawn, 31)
                registers = registers[:3] + (0,) + registers[4:]
                words = list(words)
                words[registers[0]] = 1024 * number + drawn.randint(0, 1023)
                machine, other = Machine(digests, registers, tuple(words)), Model(31, registers, words)
                machine.step()
                other.step()
                self.assertEqual(machine.registers(), other.registers(), (number, registers, words))
                self.assertEqual(machine.words(), tuple(other.words))
                self.assertEqual(machine.told(), tuple(other.told))

    def test_machines_are_apart(self):
        digests = Digests(61, None)
        words = first_words((code("lit", 5), code("store", 9), code("tell")), ())
        first, second = Machine(digests, first_registers(), words), Machine(digests, first_registers(), words)
        for _ in range(3):
            first.step()
        self.assertEqual((second.registers(), second.words(), second.told()), (first_registers(), words, ()))
        self.assertEqual(first.told(), (5,))


class Parts(unittest.TestCase):
    """Point 305, and point 306: a machine in a state goes on as any other one."""

    def test_data_by_hand(self):
        for word, expected in (
            (0, None), (65535, None), (29 * 1024, None), (code("halt", 3), None), (code("lit", 3), None),
            (code("tox", 3), None), (code("bound", 3), None), (code("not", 3), None), (code("jump", 3), None),
            (code("zero", 3), None), (code("some", 3), None), (code("tell", 3), None),
            (code("load", 3), (3, False)), (code("load", 259), (3, False)), (code("store", 3), (3, True)),
            (code("store", 1023), (255, True)), (code("loadx", 3), (0, False)), (code("loadx", 256), (253, False)),
            (code("storex", 3), (0, True)), (code("storex", 258), (255, True)), (code("index", 3), (3, False)),
            (code("within", 3), (3, False)), (code("call", 3), (3, True)), (code("call", 259), (3, True)),
            (code("back", 3), (3, False)), (code("back", 515), (3, False)),
        ):
            with self.subTest(word):
                self.assertEqual(data_of(registers_with(pc=9, acc=8, x=253), word), expected)
        for sign in SIGNS:
            self.assertEqual(data_of(registers_with(x=253), code(sign, 3)), (3, False))
            self.assertEqual(data_of(registers_with(x=253), code(sign, 771)), (3, False))

    def test_data_has_the_kinds_of_the_interface(self):
        for number in range(64):
            data = data_of(registers_with(), 1024 * number + 5)
            if data is not None:
                self.assertIs(type(data), tuple)
                self.assertIs(type(data[0]), int)
                self.assertIs(type(data[1]), bool)

    def test_done_by_hand(self):
        digests = Digests(61, None)
        start = registers_with(pc=255, acc=300, x=5)
        for word, data, expected in (
            (code("lit", 1023), None, ((0, 1023, 5, 0, 7, 0), None)),
            (code("lit", 1023), "any value", ((0, 1023, 5, 0, 7, 0), None)),
            (code("halt"), (), ((255, 300, 5, 1, 7, 0), None)),
            (0, None, ((255, 300, 5, 6, 7, 0), None)),
            (65535, None, ((255, 300, 5, 6, 7, 0), None)),
            (code("load", 3), 8, ((0, 8, 5, 0, 7, 0), None)),
            (code("store", 3), 8, ((0, 300, 5, 0, 7, 0), 300)),
            (code("loadx", 3), 0, ((0, 0, 5, 0, 7, 0), None)),
            (code("storex", 3), 8, ((0, 300, 5, 0, 7, 0), 300)),
            (code("tox"), None, ((0, 300, 300, 0, 7, 0), None)),
            (code("index", 3), 8, ((0, 300, 8, 0, 7, 0), None)),
            (code("bound", 5), None, ((255, 300, 5, 3, 7, 0), None)),
            (code("bound", 6), None, ((0, 300, 5, 0, 7, 0), None)),
            (code("within", 3), 5, ((255, 300, 5, 4, 7, 0), None)),
            (code("within", 3), 6, ((0, 300, 5, 0, 7, 0), None)),
            (code("not"), None, ((0, 0, 5, 0, 7, 0), None)),
            (code("-", 3), 301, ((0, 65535, 5, 0, 7, 0), None)),
            (code("/", 3), 0, ((255, 300, 5, 2, 7, 0), None)),
            (code("jump", 3), None, ((3, 300, 5, 0, 7, 0), None)),
            (code("zero", 3), None, ((0, 300, 5, 0, 7, 0), None)),
            (code("some", 3), None, ((3, 300, 5, 0, 7, 0), None)),
            (code("call", 3), 8, ((4, 300, 5, 0, 7, 0), 0)),
            (code("call", 255), 8, ((0, 300, 5, 0, 7, 0), 0)),
            (code("back", 3), 258, ((2, 300, 5, 0, 7, 0), None)),
            (code("tell"), None, ((0, 300, 5, 0, reckoning.out_of(61, (300,)), 1), None)),
        ):
            with self.subTest(word):
                result = done_by(digests, start, word, data)
                self.assertEqual(result, expected)
                self.assertIs(type(result), tuple)
                self.assertIs(type(result[0]), tuple)

    def test_data_and_done_agree_with_step(self):
        for bits in (7, 61):
            drawn = random.Random(305 + bits)
            digests = Digests(bits, None)
            for _ in range(500):
                registers, words = model.drawn_state(drawn, bits)
                registers = registers[:3] + (0,) + registers[4:]
                machine, other = Machine(digests, registers, words), Model(bits, registers, words)
                word = words[registers[0]]
                data = data_of(registers, word)
                self.assertEqual(data, other.other(), (registers, word))
                then, changed = done_by(digests, registers, word, None if data is None else words[data[0]])
                machine.step()
                self.assertEqual(machine.registers(), then)
                expected = list(words)
                if changed is not None:
                    self.assertIs(data[1], True)
                    expected[data[0]] = changed
                elif data is not None:
                    self.assertIs(data[1], False)
                self.assertEqual(machine.words(), tuple(expected))

    def test_a_step_looks_at_no_third_word(self):
        drawn = random.Random(306)
        digests = Digests(31, None)
        for _ in range(300):
            registers, words = model.drawn_state(drawn, 31)
            registers = registers[:3] + (0,) + registers[4:]
            data = data_of(registers, words[registers[0]])
            kept = [registers[0]] if data is None else [registers[0], data[0]]
            others = [words[place] if place in kept else drawn.randint(0, 65535) for place in range(256)]
            first, second = Machine(digests, registers, words), Machine(digests, registers, tuple(others))
            first.step()
            second.step()
            self.assertEqual(first.registers(), second.registers())
            for place in range(256):
                if place not in kept:
                    self.assertEqual((first.word(place), second.word(place)), (words[place], others[place]))
                else:
                    self.assertEqual(first.word(place), second.word(place))

    def test_a_machine_that_is_made_anew_goes_on_as_the_other_one(self):
        image = (code("load", 20), code("tox"), code("within", 239), code("loadx", 240), code("tell"),
                 code("load", 20), code("+", 4), code("not"), code("not"), code("+", 20), code("store", 20),
                 code("jump", 0))
        for bits in ALL_BITS:
            digests = Digests(bits, None)
            first = Machine(digests, first_registers(), first_words(image, (9, 8, 7, 6)))
            for turn in range(60):
                second = Machine(digests, first.registers(), first.words())
                self.assertEqual(second.told(), ())
                self.assertEqual(second.digest(), first.digest())
                before = first.told()
                third = Machine(digests, first.registers(), first.words())
                for _ in range(turn % 7):
                    first.step()
                    second.step()
                self.assertEqual(second.registers(), first.registers())
                self.assertEqual(second.words(), first.words())
                self.assertEqual(second.digest(), first.digest())
                self.assertEqual(before + second.told(), first.told())
                self.assertEqual(third.registers()[5], len(before))
            self.assertEqual(first.told(), (9, 8, 7, 6))

    def test_drawn_machines_that_are_made_anew(self):
        drawn = random.Random(3060)
        digests = Digests(61, None)
        for _ in range(60):
            registers, words = model.drawn_state(drawn, 61)
            first = Machine(digests, registers, words)
            for _ in range(5):
                second = Machine(digests, first.registers(), first.words())
                first.step()
                second.step()
                self.assertEqual(second.registers(), first.registers())
                self.assertEqual(second.words(), first.words())
                self.assertEqual(second.digest(), first.digest())


class Told(unittest.TestCase):
    """Point 105: what a machine tells to the book of its digests."""

    def test_making_a_machine_tells_the_row(self):
        for bits in ALL_BITS:
            book = ListBook()
            words = words_with({3: 4})
            Machine(Digests(bits, book), first_registers(), words)
            self.assertEqual({text[:2] for text in book.told}, reckoning.texts_of_memory(bits, words))

    def test_the_digest_is_told(self):
        book = ListBook()
        machine = Machine(Digests(31, book), first_registers(), FULL)
        del book.told[:]
        digest = machine.digest()
        self.assertEqual(book.told, [("state", first_registers() + (machine.root(),), digest)])

    def test_a_told_word_is_told(self):
        book = ListBook()
        machine = Machine(Digests(31, book), registers_with(acc=5), words_with({0: code("tell")}))
        del book.told[:]
        machine.step()
        leaf = reckoning.leaf(31, 5)
        self.assertEqual(book.told, [("leaf", 5, leaf), ("fold", (7, leaf), reckoning.fold(31, 7, leaf))])

    def test_a_changed_word_is_told(self):
        for name in ("store", "storex", "call"):
            book = ListBook()
            machine = Machine(Digests(31, book), registers_with(acc=5), words_with({0: code(name, 20)}))
            del book.told[:]
            machine.step()
            self.assertEqual(book.kinds("leaf"), [machine.word(20)])
            self.assertEqual(len(book.kinds("fold")), 8)
            self.assertEqual(len(book.told), 9)

    def test_other_steps_tell_nothing(self):
        for word in (0, code("halt"), code("lit", 3), code("load", 3), code("jump", 3), code("/", 3), code("back", 3)):
            book = ListBook()
            machine = Machine(Digests(31, book), registers_with(acc=5), words_with({0: word}))
            del book.told[:]
            machine.step()
            machine.registers()
            machine.words()
            machine.path(3)
            machine.root()
            self.assertEqual(book.told, [])


if __name__ == "__main__":
    unittest.main()
