"""The interface: every name in its file; and the plainest rules for the package's files."""

import ast
import inspect
import pathlib
import unittest

from unwind import errors, machine, making, programs, trees

FOLDER = pathlib.Path(errors.__file__).parent
FUNCTIONS = {
    "programs": {"checked": ["program"]},
    "trees": {"told": ["program", "number", "turns"]},
    "making": {"made": ["program"]},
    "machine": {"goal_of": ["stretches", "place"], "run": ["parts", "number", "turns"]},
}
MODULES = {"programs": programs, "trees": trees, "making": making, "machine": machine}
BUILTINS = {"len", "range", "enumerate", "zip", "min", "max", "sum", "abs", "sorted", "reversed", "int", "str", "bool",
            "list", "tuple", "dict", "set", "isinstance", "repr", "any", "all", "Exception", "ValueError"}


def trees_of_files():
    for path in sorted(FOLDER.glob("*.py")):
        yield path, ast.parse(path.read_text(encoding="ascii"))


class InterfaceTest(unittest.TestCase):
    def test_functions_are_defined_in_their_files_with_their_arguments(self):
        for name, functions in FUNCTIONS.items():
            for function, arguments in functions.items():
                found = getattr(MODULES[name], function)
                self.assertEqual(found.__module__, f"unwind.{name}")
                self.assertEqual(list(inspect.signature(found).parameters), arguments)

    def test_errors_are_defined_in_their_file(self):
        for name in ("MillError", "NoBox", "NoFunction", "NoLoop", "TooDeep"):
            self.assertEqual(getattr(errors, name).__module__, "unwind.errors")

    def test_arguments_by_their_names(self):
        program = [[("give", ("box", 0))]]
        self.assertIsNone(programs.checked(program=program))
        self.assertEqual(trees.told(program=program, number=3, turns=0), ([], "answer", 3))
        parts = making.made(program=program)
        self.assertEqual(machine.run(parts=parts, number=3, turns=0), ([], "answer", 3))
        self.assertEqual(machine.goal_of(stretches=[(0, 1, 2)], place=0), 2)


class FilesTest(unittest.TestCase):
    def test_only_the_files_that_are_told(self):
        self.assertEqual(sorted(path.name for path in FOLDER.iterdir() if path.name != "__pycache__"),
                         ["__init__.py", "errors.py", "machine.py", "making.py", "programs.py", "trees.py"])

    def test_lengths_and_signs(self):
        for path in FOLDER.glob("*.py"):
            text = path.read_bytes()
            self.assertTrue(all(sign == 10 or 32 <= sign <= 126 for sign in text), path)
            rows = text.decode().splitlines()
            self.assertLessEqual(len(rows), 399, path)
            self.assertLessEqual(max(len(row) for row in rows), 120, path)

    def test_functions_are_short_and_undecorated(self):
        for path, tree in trees_of_files():
            for node in ast.walk(tree):
                if isinstance(node, ast.FunctionDef):
                    self.assertLessEqual(node.end_lineno - node.lineno + 1, 40, (path, node.name))
                    self.assertEqual(node.decorator_list, [])

    def test_only_the_package_itself_is_imported(self):
        for path, tree in trees_of_files():
            for node in ast.walk(tree):
                self.assertNotIsInstance(node, ast.Import)
                if isinstance(node, ast.ImportFrom):
                    self.assertTrue(node.module.startswith("unwind."), path)
                    self.assertEqual(node.level, 0)

    def test_no_other_builtins(self):
        everything = set(dir(__builtins__) if not isinstance(__builtins__, dict) else __builtins__)
        for path, tree in trees_of_files():
            for node in ast.walk(tree):
                if isinstance(node, ast.Name) and node.id in everything:
                    self.assertIn(node.id, BUILTINS, path)
                    self.assertIsInstance(node.ctx, ast.Load)
                if isinstance(node, ast.arg):
                    self.assertNotIn(node.arg, everything, path)

    def test_no_floats_sets_and_other_excluded_forms(self):
        excluded = (ast.Div, ast.Set, ast.SetComp, ast.GeneratorExp, ast.Lambda, ast.Global, ast.Yield, ast.Await)
        for path, tree in trees_of_files():
            for node in ast.walk(tree):
                self.assertNotIsInstance(node, excluded, path)
                if isinstance(node, ast.Constant):
                    self.assertNotIsInstance(node.value, float)


if __name__ == "__main__":
    unittest.main()
