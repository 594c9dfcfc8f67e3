"""The machine: a small computer that executes one instruction a step."""

from onestepcourt.limits import MOST_INPUTS, MOST_TOLD
from onestepcourt.trees import PLACES, Memory
from onestepcourt.words import SIGNS, op

NAMES = (
    "bad", "halt", "lit", "load", "store", "loadx", "storex", "tox", "index", "bound", "within", "not",
    "+", "-", "*", "/", "mod", "==", "!=", "<", "<=", ">", ">=",
    "jump", "zero", "some", "call", "back", "tell",
)
MARKS = ("long", "done", "divided", "place", "input", "full", "bad")
FIRST_OUT = 7
COUNTED = 239
GIVEN = 240
MOST_IMAGE = 239


def first_registers():
    """Returns the registers at the start."""
    return (0, 0, 0, 0, FIRST_OUT, 0)


def first_words(image, inputs):
    """Returns the words of the memory at the start."""
    unused = (0,) * (MOST_IMAGE - len(image))
    missing = (0,) * (MOST_INPUTS - len(inputs))
    return image[:MOST_IMAGE] + unused + (len(inputs),) + inputs[:MOST_INPUTS] + missing


def out_of(digests, words):
    """Returns the digest of a row of told words."""
    out = FIRST_OUT
    for word in words:
        out = out_behind(digests, out, word)
    return out


def out_behind(digests, out, word):
    """Returns the digest of the told words when one more is told."""
    return digests.fold(out, digests.leaf(word))


def name_of(word):
    """Returns the name of an instruction."""
    number = word // 1024
    return NAMES[number] if number < len(NAMES) else "bad"


def behind(place):
    """Returns the place behind a place."""
    return (place + 1) % PLACES


def data_of(registers, word):
    """Returns the place of the other word and whether it is changed, or None if there is no other word."""
    name = name_of(word)
    place = word % PLACES
    place_by_x = (place + registers[2]) % PLACES
    if name in ("load", "index", "within", "back") or name in SIGNS:
        return (place, False)
    if name == "loadx":
        return (place_by_x, False)
    if name in ("store", "call"):
        return (place, True)
    if name == "storex":
        return (place_by_x, True)
    return None


def done_by(digests, registers, word, data):
    """Returns the registers behind a step, and what the other word becomes or None."""
    pc, acc, x, mark, out, count = registers
    name = name_of(word)
    halt = halt_by(name, registers, word, data)
    if halt is not None:
        return (pc, acc, x, MARKS.index(halt), out, count), None
    if name == "tell":
        out = out_behind(digests, out, acc)
        count = count + 1
    pc_then = pc_by(name, registers, word, data)
    acc_then = acc_by(name, registers, word, data)
    x_then = x_by(name, registers, data)
    return (pc_then, acc_then, x_then, mark, out, count), changed_by(name, registers)


def halt_by(name, registers, word, data):
    """Returns the name of the mark with which an instruction halts, or None if it goes on."""
    pc, acc, x, mark, out, count = registers
    if name == "bad":
        return "bad"
    if name == "halt":
        return "done"
    if name == "bound" and x >= word % 1024:
        return "place"
    if name == "within" and x >= data:
        return "input"
    if name in SIGNS and op(name, acc, data) is None:
        return "divided"
    if name == "tell" and count == MOST_TOLD:
        return "full"
    return None


def pc_by(name, registers, word, data):
    """Returns the place of the next instruction behind one that goes on."""
    pc, acc = registers[0], registers[1]
    place = word % PLACES
    if name == "jump" or (name == "zero" and acc == 0) or (name == "some" and acc != 0):
        return place
    if name == "call":
        return behind(place)
    if name == "back":
        return data % PLACES
    return behind(pc)


def acc_by(name, registers, word, data):
    """Returns acc behind an instruction that goes on."""
    acc = registers[1]
    if name == "lit":
        return word % 1024
    if name in ("load", "loadx"):
        return data
    if name == "not":
        return 1 if acc == 0 else 0
    if name in SIGNS:
        return op(name, acc, data)
    return acc


def x_by(name, registers, data):
    """Returns x behind an instruction that goes on."""
    if name == "tox":
        return registers[1]
    if name == "index":
        return data
    return registers[2]


def changed_by(name, registers):
    """Returns what the other word becomes by an instruction that goes on, or None if it stays."""
    if name in ("store", "storex"):
        return registers[1]
    if name == "call":
        return behind(registers[0])
    return None


class Machine:
    """A machine in a state, with what it has told since it was created."""

    def __init__(self, digests, registers, words):
        self._digests = digests
        self._registers = registers
        self._memory = Memory(digests, words)
        self._told = []

    def registers(self):
        """Returns the registers."""
        return self._registers

    def words(self):
        """Returns the tuple of all words of the memory."""
        return self._memory.words()

    def word(self, place):
        """Returns the word of the memory at a place."""
        return self._memory.word(place)

    def path(self, place):
        """Returns the path of the word of the memory at a place."""
        return self._memory.path(place)

    def root(self):
        """Returns the root of the memory."""
        return self._memory.root()

    def digest(self):
        """Returns the digest of the state."""
        return self._digests.state(self._registers + (self._memory.root(),))

    def step(self):
        """Executes a step."""
        pc, acc, x, mark, out, count = self._registers
        if mark != 0:
            return
        word = self._memory.word(pc)
        other = data_of(self._registers, word)
        data = None if other is None else self._memory.word(other[0])
        self._registers, changed = done_by(self._digests, self._registers, word, data)
        if changed is not None:
            self._memory.change(other[0], changed)
        if self._registers[5] > count:
            self._told.append(acc)

    def told(self):
        """Returns the tuple of the words that were told since the machine was created."""
        return tuple(self._told)
