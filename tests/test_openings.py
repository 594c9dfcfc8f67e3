import random
import unittest

import model
import reckoning
from model import Model, code
from reckoning import ALL_BITS, MODULI, NO_INTEGERS, ListBook
from onestepcourt.digests import Book, Digests
from onestepcourt.errors import BadOpening
from onestepcourt.machine import NAMES, Machine, first_registers, first_words
from onestepcourt.openings import are_registers, opened, step_of

NONE = ("bad", "halt", "lit", "tox", "bound", "not", "jump", "zero", "some", "tell")
READ = ("load", "index", "within", "+", "-", "*", "/", "mod", "==", "!=", "<", "<=", ">", ">=", "back")
CHANGED = ("store", "call")


def machine_at(bits, word, registers=(10, 300, 5, 0, 7, 3), book=None):
    """A machine whose instruction is this word; each other word tells its place."""
    words = [1000 + place for place in range(256)]
    words[registers[0]] = word
    return Machine(Digests(bits, book), registers, tuple(words))


def replaced(values, at, value):
    return values[:at] + (value,) + values[at + 1:]


class Opened(unittest.TestCase):
    """Points 400 and 401."""

    def check(self, machine, places):
        registers, root, parts = opened(machine)
        self.assertEqual(registers, machine.registers())
        self.assertEqual(root, machine.root())
        self.assertEqual(parts, tuple((machine.word(place), machine.path(place)) for place in places))
        self.assertIs(type(parts), tuple)
        for part in parts:
            self.assertIs(type(part), tuple)
            self.assertIs(type(part[1]), tuple)
            self.assertEqual(len(part[1]), 8)

    def test_the_kinds_of_an_opening(self):
        opening = opened(machine_at(61, code("load", 20)))
        self.assertIs(type(opening), tuple)
        self.assertEqual(len(opening), 3)

    def test_by_own_reckoning(self):
        for bits in ALL_BITS:
            words = [1000 + place for place in range(256)]
            words[10] = code("store", 20)
            row = reckoning.leaves(bits, words)
            self.assertEqual(opened(machine_at(bits, code("store", 20))), (
                (10, 300, 5, 0, 7, 3), reckoning.root(bits, row),
                ((code("store", 20), reckoning.path(bits, row, 10)), (1020, reckoning.path(bits, row, 20)))))

    def test_no_other_word(self):
        for name in NONE:
            for argument in (0, 10, 20, 300, 1023):
                self.check(machine_at(31, code(name, argument)), (10,))
        for number in (29, 30, 63):
            self.check(machine_at(31, 1024 * number + 20), (10,))

    def test_another_word_that_is_read(self):
        for name in READ:
            for argument, place in ((0, 0), (20, 20), (10, 10), (276, 20), (1023, 255)):
                self.check(machine_at(31, code(name, argument)), (10, place))

    def test_another_word_that_is_changed(self):
        for name in CHANGED:
            for argument, place in ((0, 0), (20, 20), (10, 10), (276, 20), (1023, 255)):
                self.check(machine_at(31, code(name, argument)), (10, place))

    def test_another_word_by_x(self):
        for name in ("loadx", "storex"):
            for argument, x, place in ((20, 5, 25), (5, 5, 10), (255, 1, 0), (276, 65535, 19), (1023, 0, 255)):
                self.check(machine_at(31, code(name, argument), (10, 300, x, 0, 7, 3)), (10, place))

    def test_all_names_are_tried(self):
        self.assertEqual(sorted(NONE + READ + CHANGED + ("loadx", "storex")), sorted(NAMES))

    def test_a_step_that_is_going_to_halt(self):
        for word, registers, places in (
            (code("/", 20), (10, 1, 1, 0, 7, 0), (10, 20)), (code("within", 20), (10, 1, 65535, 0, 7, 0), (10, 20)),
            (code("bound", 0), (10, 1, 1, 0, 7, 0), (10,)), (code("tell"), (10, 1, 1, 0, 7, 16), (10,)),
        ):
            self.check(machine_at(31, word, registers), places)

    def test_a_machine_that_has_halted(self):
        for mark in range(1, 7):
            for word in (0, code("load", 20), code("store", 20), code("lit", 20), code("halt")):
                self.check(machine_at(31, word, (10, 300, 5, mark, 7, 3)), ())

    def test_the_place_255(self):
        self.check(machine_at(31, code("load", 0), (255, 300, 5, 0, 7, 3)), (255, 0))

    def test_the_machine_is_not_changed(self):
        for name in NAMES:
            machine = machine_at(31, code(name, 20))
            before = (machine.registers(), machine.words(), machine.root(), machine.digest(), machine.told())
            first = opened(machine)
            self.assertEqual(
                (machine.registers(), machine.words(), machine.root(), machine.digest(), machine.told()), before)
            self.assertEqual(opened(machine), first)

    def test_an_opening_stays_as_it_was(self):
        machine = machine_at(61, code("store", 20))
        opening = opened(machine)
        parts = opening[2]
        machine.step()
        self.assertEqual(opening, ((10, 300, 5, 0, 7, 3), opening[1], parts))
        self.assertEqual(parts[1][0], 1020)
        self.assertNotEqual(opening[1], machine.root())


class NextDigests(unittest.TestCase):
    """Point 402: the digest of the next state for the opening of a state."""

    def check(self, digests, machine):
        digest, opening = machine.digest(), opened(machine)
        machine.step()
        self.assertEqual(step_of(digests, digest, opening), machine.digest())

    def test_each_instruction(self):
        for bits in ALL_BITS:
            digests = Digests(bits, None)
            for number in range(64):
                for argument in (0, 10, 20, 255, 256, 1023):
                    self.check(digests, machine_at(bits, 1024 * number + argument))

    def test_each_halt(self):
        for bits in ALL_BITS:
            digests = Digests(bits, None)
            for word, registers in (
                (0, (0, 1, 1, 0, 7, 0)), (65535, (255, 1, 1, 0, 7, 0)), (code("halt"), (0, 1, 1, 0, 7, 0)),
                (code("bound", 1), (0, 1, 1, 0, 7, 0)), (code("within", 20), (0, 1, 1020, 0, 7, 0)),
                (code("within", 20), (0, 1, 1019, 0, 7, 0)), (code("tell"), (0, 1, 1, 0, 7, 16)),
                (code("tell"), (0, 1, 1, 0, 7, 15)),
            ):
                self.check(digests, machine_at(bits, word, registers))
            for sign in ("/", "mod"):
                self.check(digests, Machine(digests, (3, 1, 1, 0, 7, 0), (0,) * 3 + (code(sign, 20),) + (0,) * 252))

    def test_a_halted_machine_keeps_its_digest(self):
        for bits in ALL_BITS:
            digests = Digests(bits, None)
            for mark in range(1, 7):
                machine = machine_at(bits, code("store", 20), (10, 300, 5, mark, 7, 3))
                digest = machine.digest()
                self.assertEqual(step_of(digests, digest, opened(machine)), digest)

    def test_edges_of_the_registers(self):
        for bits in ALL_BITS:
            digests = Digests(bits, None)
            last = MODULI[bits] - 1
            for word in (code("tell"), code("storex", 3), code("call", 255), code("+", 0)):
                for registers in ((0, 0, 0, 0, 0, 0), (255, 65535, 65535, 0, last, 16), (255, 65535, 65535, 0, last, 15)):
                    self.check(digests, machine_at(bits, word, registers))

    def test_own_reckoning_of_drawn_states(self):
        for bits in ALL_BITS:
            drawn = random.Random(402 + bits)
            digests = Digests(bits, None)
            for _ in range(300):
                registers, words = model.drawn_state(drawn, bits)
                other = Model(bits, registers, words)
                digest = other.digest()
                opening = opened(Machine(digests, registers, words))
                other.step()
                self.assertEqual(step_of(digests, digest, opening), other.digest(), (bits, registers, words))

    def test_a_whole_run(self):
        image = (code("load", 20), code("tox"), code("within", 239), code("loadx", 240), code("tell"),
                 code("load", 20), code("+", 4), code("not"), code("not"), code("+", 20), code("store", 20),
                 code("jump", 0))
        for bits in ALL_BITS:
            digests = Digests(bits, None)
            machine = Machine(digests, first_registers(), first_words(image, (9, 8, 7, 6)))
            digest = machine.digest()
            for _ in range(70):
                digest = step_of(digests, digest, opened(machine))
                machine.step()
                self.assertEqual(digest, machine.digest())
            self.assertEqual(machine.registers()[3], 4)

    def test_the_opening_stays_as_it_was(self):
        digests = Digests(61, None)
        machine = machine_at(61, code("call", 20))
        digest, opening, same = machine.digest(), opened(machine), opened(machine)
        first = step_of(digests, digest, opening)
        self.assertEqual(opening, same)
        self.assertEqual(step_of(digests, digest, opening), first)


class Refused(unittest.TestCase):
    """Point 402: what is refused with digests of 61 bits, where nothing collides."""

    def setUp(self):
        self.book = Book()
        self.digests = Digests(61, self.book)

    def tearDown(self):
        self.assertIs(self.book.has_collision(), False)

    def refuse(self, digest, opening):
        with self.assertRaises(BadOpening):
            step_of(self.digests, digest, opening)

    def machines(self):
        for name in NAMES:
            yield machine_at(61, code(name, 20))
            yield machine_at(61, code(name, 20), (10, 0, 1, 0, 9, 16))
        for mark in range(1, 7):
            yield machine_at(61, code("load", 20), (10, 300, 5, mark, 7, 3))
        yield machine_at(61, 65535)
        yield machine_at(61, code("store", 10))
        yield machine_at(61, code("call", 10))
        yield machine_at(61, code("load", 10))

    def test_another_digest(self):
        for machine in self.machines():
            digest, opening = machine.digest(), opened(machine)
            for other in (0, 3, digest + 1, digest - 1, opening[1], MODULI[61] - 1):
                self.refuse(other, opening)

    def test_the_opening_of_another_state(self):
        before = None
        for machine in self.machines():
            digest, opening = machine.digest(), opened(machine)
            if before is not None:
                self.refuse(digest, before[1])
                self.refuse(before[0], opening)
            before = (digest, opening)

    def test_the_opening_behind_the_step(self):
        for machine in self.machines():
            digest = machine.digest()
            if machine.registers()[3] == 0:
                machine.step()
                self.refuse(digest, opened(machine))

    def test_a_changed_register(self):
        for machine in self.machines():
            digest, (registers, root, parts) = machine.digest(), opened(machine)
            for at in range(6):
                for other in (registers[at] + 1, registers[at] - 1, 0, 2, 6):
                    if other != registers[at]:
                        self.refuse(digest, (replaced(registers, at, other), root, parts))

    def test_a_changed_root(self):
        for machine in self.machines():
            digest, (registers, root, parts) = machine.digest(), opened(machine)
            for other in (root + 1, root - 1, 0, digest):
                self.refuse(digest, (registers, other, parts))

    def test_a_changed_word(self):
        for machine in self.machines():
            digest, (registers, root, parts) = machine.digest(), opened(machine)
            for at, (word, path) in enumerate(parts):
                for other in (word + 1, word - 1, 0, 1, 65535, code("halt"), code("load", 20), code("store", 20)):
                    if other != word:
                        self.refuse(digest, (registers, root, replaced(parts, at, (other, path))))

    def test_a_changed_path(self):
        for machine in self.machines():
            digest, (registers, root, parts) = machine.digest(), opened(machine)
            for at, (word, path) in enumerate(parts):
                for height in range(8):
                    for other in ((path[height] + 1) % MODULI[61], (path[height] - 1) % MODULI[61], 0):
                        changed = replaced(parts, at, (word, replaced(path, height, other)))
                        self.refuse(digest, (registers, root, changed))

    def test_parts_of_another_place(self):
        for machine in self.machines():
            digest, (registers, root, parts) = machine.digest(), opened(machine)
            for at in range(len(parts)):
                for place in (11, 21, 19, 200):
                    other = (machine.word(place), machine.path(place))
                    if other != parts[at]:
                        self.refuse(digest, (registers, root, replaced(parts, at, other)))

    def test_a_part_left_out(self):
        for machine in self.machines():
            digest, (registers, root, parts) = machine.digest(), opened(machine)
            for at in range(len(parts)):
                self.refuse(digest, (registers, root, parts[:at] + parts[at + 1:]))
            if parts:
                self.refuse(digest, (registers, root, ()))

    def test_a_part_doubled(self):
        for machine in self.machines():
            digest, (registers, root, parts) = machine.digest(), opened(machine)
            for at in range(len(parts)):
                self.refuse(digest, (registers, root, parts[:at] + (parts[at],) + parts[at:]))
                self.refuse(digest, (registers, root, parts + (parts[at],)))
            self.refuse(digest, (registers, root, parts + ((machine.word(10), machine.path(10)),)))
            self.refuse(digest, (registers, root, parts + ((machine.word(20), machine.path(20)),)))

    def test_parts_in_the_other_order(self):
        for machine in self.machines():
            digest, (registers, root, parts) = machine.digest(), opened(machine)
            if len(parts) == 2 and parts[0] != parts[1]:
                self.refuse(digest, (registers, root, (parts[1], parts[0])))

    def test_parts_of_a_machine_that_has_halted(self):
        for mark in range(1, 7):
            machine = machine_at(61, code("load", 20), (10, 300, 5, mark, 7, 3))
            registers, root, parts = opened(machine)
            for place in (0, 10, 20):
                part = (machine.word(place), machine.path(place))
                self.refuse(machine.digest(), (registers, root, (part,)))
                self.refuse(machine.digest(), (registers, root, (part, part)))


class Forms(unittest.TestCase):
    """Point 402: values that have not the form of an opening, at all sizes."""

    # All that can be 0 or 1 is 0 or 1, so that False and True have the same digest as the number.
    STATES = (
        ((1, 1, 1, 0, 1, 1), code("load", 1)),
        ((0, 0, 0, 0, 0, 0), code("store", 2)),
        ((1, 0, 1, 1, 0, 1), 0),
    )

    def states(self):
        for bits in ALL_BITS:
            for registers, word in self.STATES:
                words = [0, 1] * 128
                words[registers[0]] = word
                words[2] = 1
                machine = Machine(Digests(bits, None), registers, tuple(words))
                yield bits, machine.digest(), opened(machine)

    def refuse(self, bits, digest, opening):
        with self.subTest(bits=bits, opening=repr(opening)[:200]), self.assertRaises(BadOpening):
            step_of(Digests(bits, None), digest, opening)

    def no_numbers(self, number):
        """Values that are no integers, among them such as are equal to the number."""
        yield float(number)
        yield bool(number)
        yield str(number)
        yield from NO_INTEGERS

    def test_the_states_themselves_are_taken(self):
        for bits, digest, opening in self.states():
            self.assertIs(Digests(bits, None).is_digest(step_of(Digests(bits, None), digest, opening)), True)

    def test_no_tuple_of_three(self):
        for bits, digest, opening in self.states():
            for other in NO_INTEGERS + (0, 1, digest, "abc", b"abc", {"a": 1, "b": 2, "c": 3}, {1, 2, 3}, range(3)):
                self.refuse(bits, digest, other)
            self.refuse(bits, digest, list(opening))
            self.refuse(bits, digest, opening[:2])
            self.refuse(bits, digest, opening[1:])
            self.refuse(bits, digest, opening + ((),))
            self.refuse(bits, digest, (opening,))
            self.refuse(bits, digest, (opening[1], opening[0], opening[2]))
            self.refuse(bits, digest, (None, None, None))

    def test_no_registers(self):
        for bits, digest, (registers, root, parts) in self.states():
            for other in NO_INTEGERS + (0, "abcdef", list(registers), registers[:5], registers + (0,), registers[1:]):
                self.refuse(bits, digest, (other, root, parts))
            self.refuse(bits, digest, (registers + (root,), root, parts))

    def test_registers_that_are_no_integers(self):
        for bits, digest, (registers, root, parts) in self.states():
            for at in range(6):
                for other in self.no_numbers(registers[at]):
                    self.refuse(bits, digest, (replaced(registers, at, other), root, parts))

    def test_registers_out_of_their_bounds(self):
        for bits, digest, (registers, root, parts) in self.states():
            modulus = MODULI[bits]
            greatest = (255, 65535, 65535, 6, modulus - 1, 16)
            for at in range(6):
                # A number that is greater by multiples of the modulus has the same digest.
                same = registers[at] + modulus * (1 + 65536 // modulus)
                for other in (-1, registers[at] - modulus, greatest[at] + 1, greatest[at] + 2, same):
                    self.refuse(bits, digest, (replaced(registers, at, other), root, parts))

    def test_no_root(self):
        for bits, digest, (registers, root, parts) in self.states():
            for other in (*self.no_numbers(root), -1, root - MODULI[bits], MODULI[bits], root + MODULI[bits], 2 ** 70):
                self.refuse(bits, digest, (registers, other, parts))

    def test_no_tuple_of_parts(self):
        for bits, digest, (registers, root, parts) in self.states():
            for other in (None, True, False, 0, 1, "", "a", "ab", [], {}, list(parts), dict(parts), set(parts)):
                self.refuse(bits, digest, (registers, root, other))

    def test_no_parts(self):
        for bits, digest, (registers, root, parts) in self.states():
            for at, (word, path) in enumerate(parts):
                for other in NO_INTEGERS + (
                    0, "ab", [word, path], (word,), (word, path, 0), (path, word), (word, path, ()), (None, path),
                    {word: path},
                ):
                    self.refuse(bits, digest, (registers, root, replaced(parts, at, other)))

    def test_such_parts_of_a_machine_that_has_halted(self):
        for bits, digest, (registers, root, parts) in self.states():
            if registers[3] != 0:
                for other in (None, 0, "", [], {}, (None,), ((),), ((0, ()),), (0,)):
                    self.refuse(bits, digest, (registers, root, other))

    def test_words_that_are_none(self):
        for bits, digest, (registers, root, parts) in self.states():
            for at, (word, path) in enumerate(parts):
                modulus = MODULI[bits]
                same = word + modulus * (1 + 65536 // modulus)
                for other in (*self.no_numbers(word), -1, word - 65536 * modulus, 65536, 65537, same):
                    self.refuse(bits, digest, (registers, root, replaced(parts, at, (other, path))))

    def test_paths_that_are_none(self):
        for bits, digest, (registers, root, parts) in self.states():
            for at, (word, path) in enumerate(parts):
                for other in NO_INTEGERS + (0, "abcdefgh", list(path), path[:7], path + (0,), path[1:], (path,) * 8):
                    self.refuse(bits, digest, (registers, root, replaced(parts, at, (word, other))))

    def test_paths_with_items_that_are_no_digests(self):
        for bits, digest, (registers, root, parts) in self.states():
            for at, (word, path) in enumerate(parts):
                for height in range(8):
                    item = path[height]
                    for other in (
                        *self.no_numbers(item), -1, item - MODULI[bits], MODULI[bits], item + MODULI[bits], 2 ** 70,
                    ):
                        changed = replaced(parts, at, (word, replaced(path, height, other)))
                        self.refuse(bits, digest, (registers, root, changed))

    def test_paths_of_another_length_that_lead_to_the_root(self):
        tried = set()
        for first in range(20):
            words = (first,) * 10 + (code("load", 20),) + (first + 1,) * 245
            machine = Machine(Digests(7, None), (10, 300, 5, 0, 7, 3), words)
            digest, (registers, root, parts) = machine.digest(), opened(machine)
            for at, (word, path) in enumerate(parts):
                place = (10, 20)[at]
                for length in (1, 2, 6, 7, 9, 10, 16):
                    longer = (path + (first,) * 8)[:length - 1]
                    for item in range(127):
                        other = longer + (item,)
                        if self.root_by(place, word, other) == root:
                            tried.add((at, length))
                            self.refuse(7, digest, (registers, root, replaced(parts, at, (word, other))))
        self.assertEqual(len(tried), 14)

    def root_by(self, place, word, path):
        root = reckoning.leaf(7, word)
        for height, item in enumerate(path):
            pair = (root, item) if place >> height & 1 == 0 else (item, root)
            root = reckoning.fold(7, *pair)
        return root

    def test_too_many_or_too_few_parts(self):
        for bits, digest, (registers, root, parts) in self.states():
            part = (0, (0,) * 8)
            self.refuse(bits, digest, (registers, root, parts + (part,)))
            self.refuse(bits, digest, (registers, root, parts + (part,) * 3))
            if parts:
                self.refuse(bits, digest, (registers, root, ()))
                self.refuse(bits, digest, (registers, root, parts[:1]))


class Registers(unittest.TestCase):
    def test_registers(self):
        for bits in ALL_BITS:
            digests = Digests(bits, None)
            last = MODULI[bits] - 1
            for value in (
                (0, 0, 0, 0, 0, 0), (0, 0, 0, 0, 7, 0), (255, 65535, 65535, 6, last, 16), (1, 2, 3, 4, 5, 6),
                (100, 1000, 10000, 1, 100, 10),
            ):
                self.assertIs(are_registers(digests, value), True, (bits, value))

    def test_each_number_at_its_bounds(self):
        for bits in ALL_BITS:
            digests = Digests(bits, None)
            for at, greatest in enumerate((255, 65535, 65535, 6, MODULI[bits] - 1, 16)):
                for value, right in (
                    (0, True), (1, True), (greatest - 1, True), (greatest, True),
                    (-1, False), (-2, False), (greatest + 1, False), (greatest + 2, False), (2 ** 70, False),
                ):
                    self.assertIs(are_registers(digests, replaced((0,) * 6, at, value)), right, (bits, at, value))

    def test_each_number_is_an_integer(self):
        for bits in ALL_BITS:
            for at in range(6):
                for value in NO_INTEGERS + (0.0, "0"):
                    with self.subTest(at=at, value=repr(value)):
                        self.assertIs(are_registers(Digests(bits, None), replaced((0,) * 6, at, value)), False)

    def test_other_values(self):
        for bits in ALL_BITS:
            for value in NO_INTEGERS + (
                0, 5, (0,) * 5, (0,) * 7, [0] * 6, "000000", b"000000", {n: 0 for n in range(6)}, range(6),
                ((0,) * 6,), ((0,) * 6,) * 6, set(range(6)),
            ):
                with self.subTest(repr(value)):
                    self.assertIs(are_registers(Digests(bits, None), value), False)

    def test_asking_tells_nothing(self):
        book = ListBook()
        are_registers(Digests(7, book), (0,) * 6)
        self.assertEqual(book.told, [])


class Asked(unittest.TestCase):
    """Point 403: what `step_of` asks for, and point 105: it is told to the book."""

    def asked(self, bits, machine):
        book = ListBook()
        then = step_of(Digests(bits, book), machine.digest(), opened(machine))
        return book, then

    def check(self, bits, machine, paths, told):
        book, then = self.asked(bits, machine)
        self.assertLessEqual(len(book.kinds("fold")), paths + told)
        self.assertLessEqual(len(book.kinds("state")), 2)
        self.assertLessEqual(len(book.told), 30)

    def test_no_more_than_so_many(self):
        for bits in ALL_BITS:
            for name in NONE:
                self.check(bits, machine_at(bits, code(name, 20)), 8, 1 if name == "tell" else 0)
            for name in READ + ("loadx",):
                self.check(bits, machine_at(bits, code(name, 20)), 16, 0)
            for name in CHANGED + ("storex",):
                self.check(bits, machine_at(bits, code(name, 20)), 24, 0)

    def test_a_machine_that_has_halted(self):
        for mark in range(1, 7):
            self.check(61, machine_at(61, code("store", 20), (10, 300, 5, mark, 7, 3)), 0, 0)

    def test_refused_openings_ask_for_no_more(self):
        machine = machine_at(61, code("store", 20))
        digest, (registers, root, parts) = machine.digest(), opened(machine)
        for opening in (
            (registers, root, parts * 100), (registers, root, ()), (registers, root, (parts[0], parts[0])),
            (registers, root, parts[:1]), (registers, root + 1, parts), None,
        ):
            book = ListBook()
            with self.assertRaises(BadOpening):
                step_of(Digests(61, book), digest, opening)
            self.assertLessEqual(len(book.kinds("fold")), 24)
            self.assertLessEqual(len(book.kinds("state")), 2)

    def test_what_is_told_for_a_changed_word(self):
        machine = machine_at(31, code("store", 20))
        digest, root = machine.digest(), machine.root()
        book, then = self.asked(31, machine)
        machine.step()
        self.assertEqual(book.kinds("leaf"), [code("store", 20), 1020, 300])
        self.assertEqual(len(book.kinds("fold")), 24)
        self.assertEqual(
            [text for text in book.told if text[0] == "state"],
            [("state", (10, 300, 5, 0, 7, 3, root), digest),
             ("state", (11, 300, 5, 0, 7, 3, machine.root()), machine.digest())])
        self.assertEqual(then, machine.digest())

    def test_what_is_told_for_a_told_word(self):
        machine = machine_at(31, code("tell"))
        book, then = self.asked(31, machine)
        self.assertEqual(book.kinds("leaf"), [code("tell"), 300])
        self.assertIn((7, reckoning.leaf(31, 300)), book.kinds("fold"))
        self.assertEqual(len(book.kinds("fold")), 9)

    def test_all_texts_are_those_of_the_states(self):
        for bits in ALL_BITS:
            drawn = random.Random(403 + bits)
            for _ in range(40):
                registers, words = model.drawn_state(drawn, bits)
                known = ListBook()
                machine = Machine(Digests(bits, known), registers, words)
                book, then = self.asked(bits, machine)
                machine.step()
                machine.digest()
                self.assertLessEqual({text[:2] for text in book.told}, {text[:2] for text in known.told})


class Collisions(unittest.TestCase):
    """Point 403 with small digests: what is taken is the opening, or the book has a collision."""

    def test_drawn_changes(self):
        drawn = random.Random(4030)
        taken = 0
        for bits in (7, 13):
            for _ in range(400):
                registers, words = model.drawn_state(drawn, bits)
                registers = registers[:3] + (0,) + registers[4:]
                book = Book()
                digests = Digests(bits, book)
                machine = Machine(digests, registers, words)
                digest, (registers, root, parts) = machine.digest(), opened(machine)
                at = drawn.randrange(len(parts))
                word = drawn.randint(0, 65535)
                changed = (registers, root, replaced(parts, at, (word, parts[at][1])))
                try:
                    step_of(digests, digest, changed)
                except BadOpening:
                    continue
                taken += 1
                self.assertTrue(word == parts[at][0] or book.has_collision())
        self.assertGreater(taken, 0)


if __name__ == "__main__":
    unittest.main()
