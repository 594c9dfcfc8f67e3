"""The examples of the README and of the document's interface."""

import doctest
import pathlib
import unittest

MACHINE = """
>>> from onestepcourt.digests import Digests
>>> from onestepcourt.machine import Machine, first_registers, first_words
>>> digests = Digests(61, None)
>>> machine = Machine(digests, first_registers(), first_words((2 * 1024 + 9, 28 * 1024, 1024), ()))
>>> for turn in range(5):
...     machine.step()
>>> machine.told()
(9,)
>>> machine.registers()[:4]
(2, 9, 0, 1)
"""

OPENINGS = """
>>> from onestepcourt.digests import Digests
>>> from onestepcourt.machine import Machine, first_registers, first_words
>>> from onestepcourt.openings import opened, step_of
>>> digests = Digests(61, None)
>>> machine = Machine(digests, first_registers(), first_words((26 * 1024 + 5,), (3, 4)))
>>> digest = machine.digest()
>>> opening = opened(machine)
>>> opening[0], len(opening[2]), opening[2][1][0]
((0, 0, 0, 0, 7, 0), 2, 0)
>>> machine.step()
>>> step_of(digests, digest, opening) == machine.digest()
True
"""

READING = r"""
>>> from onestepcourt.reading import parse
>>> parse("to twice(n)\n  give n * 2\nend\nmain\n  tell twice(input(0)) # the first one\nend")
('program', (), (('twice', ('n',), (('give', ('op', '*', ('name', 'n'), ('number', 2))),)),), (('tell', ('call', 'twice', (('input', ('number', 0)),))),))
"""

WRITING = r"""
>>> from onestepcourt.writing import write
>>> write(("program", (("t", 4),), (), (("while", ("not", ("at", "t", ("number", 0))), (("put", "t", ("number", 0), ("inputs",)),)),)))
'table t 4\nmain\n  while not t[0]\n    t[0] = inputs\n  end\nend\n'
"""

PLAIN = r"""
>>> from onestepcourt.meaning import check
>>> from onestepcourt.plain import plain
>>> from onestepcourt.reading import parse
>>> checked = check(parse("main\nlet k = 0\nwhile k < inputs\ntell input(k) / 2\nk = k + 1\nend\ntell 1 / k\nend"))
>>> plain(checked, (9, 4), 100)
((4, 2, 0), 'done')
>>> plain(checked, (), 100)
((), 'divided')
>>> plain(checked, (9, 4), 5)
((4,), 'long')
"""

BUILDING = r"""
>>> from onestepcourt.building import build
>>> from onestepcourt.meaning import check
>>> from onestepcourt.reading import parse
>>> image, pace = build(check(parse("main\nlet k = 2\nwhile k\ntell k\nk = k - 1\nend\nend")))
>>> [(word // 1024, word % 1024) for word in image]
[(2, 2), (4, 12), (3, 12), (24, 10), (3, 12), (28, 0), (3, 12), (13, 11), (4, 12), (23, 2), (1, 0), (0, 1), (0, 0)]
>>> pace
3
"""

SCHEDULES = r"""
>>> from onestepcourt.schedules import read_schedule
>>> read_schedule("court 61 5 9 0\nplayer honest 0 20\ntext\nmain\nend\n.\nask 0 0 1 7,8\ntick 2")
((61, 5, 9, 0, (('honest', 0, 20),)), (('ask', 0, (1024,), (7, 8), 1), ('tick',), ('tick',)))
>>> read_schedule("court 61 5 9 0\ntick")
Traceback (most recent call last):
onestepcourt.errors.BadSchedule: 2
"""

README = pathlib.Path(__file__).resolve().parent.parent / "README.md"


class Examples(unittest.TestCase):
    def check(self, text, name):
        # A closing fence is no part of what an example prints.
        plain = text.replace("```", "")
        test = doctest.DocTestParser().get_doctest(plain, {}, name, None, 0)
        self.assertTrue(test.examples)
        told = []
        doctest.DocTestRunner(verbose=False).run(test, out=told.append)
        self.assertEqual("".join(told), "")

    def test_the_readme(self):
        self.check(README.read_text(encoding="ascii"), "README.md")

    def test_the_machine(self):
        self.check(MACHINE, "machine")

    def test_the_openings(self):
        self.check(OPENINGS, "openings")

    def test_reading(self):
        self.check(READING, "reading")

    def test_writing(self):
        self.check(WRITING, "writing")

    def test_plain(self):
        self.check(PLAIN, "plain")

    def test_building(self):
        self.check(BUILDING, "building")

    def test_schedules(self):
        self.check(SCHEDULES, "schedules")


if __name__ == "__main__":
    unittest.main()
