"""The examples of the README and of the document's interface."""

import doctest
import pathlib
import unittest

README = pathlib.Path(__file__).resolve().parent.parent / "README.md"


class Examples(unittest.TestCase):
    def check(self, text, name):
        # A closing fence is no part of what an example prints.
        plain = text.replace("```", "")
        test = doctest.DocTestParser().get_doctest(plain, {}, name, None, 0)
        self.assertTrue(test.examples)
        told = []
        doctest.DocTestRunner(verbose=False).run(test, out=told.append)
        self.assertEqual("".join(told), "")

    def test_the_readme(self):
        self.check(README.read_text(encoding="ascii"), "README.md")


if __name__ == "__main__":
    unittest.main()
