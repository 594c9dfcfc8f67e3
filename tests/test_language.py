"""Some of the rules for the files of the package that can be seen from the code alone."""

import ast
import builtins
import pathlib
import unittest

PACKAGE = pathlib.Path(__file__).resolve().parent.parent / "onestepcourt"
USED = {
    "len", "range", "enumerate", "zip", "min", "max", "sum", "abs", "sorted", "reversed", "int", "str", "bool",
    "list", "tuple", "dict", "set", "isinstance", "any", "all", "ValueError", "KeyError", "super", "repr", "divmod",
    "ord",
}


def files():
    return sorted(PACKAGE.rglob("*.py"))


def nodes(kind):
    for path in files():
        for node in ast.walk(ast.parse(path.read_text(encoding="utf-8"))):
            if isinstance(node, kind):
                yield path.name, node


class Language(unittest.TestCase):
    def test_the_folder_has_files_of_python_alone(self):
        for path in PACKAGE.rglob("*"):
            if "__pycache__" not in path.parts and path.is_file():
                self.assertEqual(path.suffix, ".py", path)

    def test_sizes_and_characters(self):
        for path in files():
            text = path.read_text(encoding="utf-8")
            self.assertTrue(all(" " <= sign <= "~" or sign == "\n" for sign in text), path)
            lines = text.split("\n")
            self.assertLess(len(lines), 400, path)
            self.assertLessEqual(max(len(line) for line in lines), 120, path)
        for name, node in nodes(ast.FunctionDef):
            self.assertLessEqual(node.end_lineno - node.lineno + 1, 40, (name, node.name))

    def test_imports(self):
        self.assertEqual(list(nodes(ast.Import)), [])
        for name, node in nodes(ast.ImportFrom):
            self.assertEqual(node.level, 0, name)
            self.assertTrue(node.module.startswith("onestepcourt."), (name, node.module))
            tree = ast.parse((PACKAGE / (node.module.split(".")[1] + ".py")).read_text(encoding="utf-8"))
            own = {found.name for found in tree.body if isinstance(found, (ast.FunctionDef, ast.ClassDef))}
            own |= {found.targets[0].id for found in tree.body if isinstance(found, ast.Assign)}
            for imported in node.names:
                self.assertIsNone(imported.asname, (name, imported.name))
                self.assertIn(imported.name, own, name)

    def test_no_two_files_import_from_each_other(self):
        edges = {}
        for name, node in nodes(ast.ImportFrom):
            edges.setdefault(name[:-3], set()).add(node.module.split(".")[1])
        while edges:
            ready = [name for name in edges if not any(other in edges for other in edges[name])]
            self.assertTrue(ready, edges)
            for name in ready:
                del edges[name]

    def test_builtins(self):
        # The examples, run in the same process, leave their last value under the name _.
        known = set(dir(builtins)) - {"_"}
        for name, node in nodes(ast.Name):
            if isinstance(node.ctx, ast.Load):
                self.assertTrue(node.id not in known or node.id in USED, (name, node.id))
            else:
                self.assertNotIn(node.id, known, name)
        for name, node in nodes(ast.arg):
            self.assertNotIn(node.arg, known, name)

    def test_no_floats_and_no_division_with_a_fraction(self):
        self.assertEqual(list(nodes(ast.Div)), [])
        for name, node in nodes(ast.Constant):
            self.assertNotIsInstance(node.value, (float, complex), name)

    def test_exponents_are_literals(self):
        for name, node in nodes(ast.BinOp):
            if isinstance(node.op, ast.Pow):
                self.assertIsInstance(node.right, ast.Constant, (name, node.lineno))

    def test_no_statements_that_are_left_out(self):
        self.assertEqual(list(nodes((ast.Global, ast.AsyncFunctionDef, ast.Await, ast.AsyncFor, ast.AsyncWith))), [])
        for name, node in nodes(ast.ExceptHandler):
            self.assertIsNotNone(node.type, (name, node.lineno))

    def test_strings_have_no_percent_sign(self):
        for name, node in nodes(ast.Constant):
            if isinstance(node.value, str):
                self.assertNotIn(chr(37), node.value, name)


if __name__ == "__main__":
    unittest.main()
