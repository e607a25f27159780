"""The interface's names and arguments, and its last paragraph."""

import ast
import builtins
import contextlib
import inspect
import io
import pathlib
import unittest

from groups import GOOD_GROUPS, NOT_GOOD_GROUPS, TOP
from powershown import knowing

PACKAGE = pathlib.Path(knowing.__file__).parent

ARGUMENTS = {
    "sg_good": ["p", "q", "g"],
    "sg_power": ["p", "q", "g", "base", "x"],
    "sg_answer": ["p", "q", "g", "r", "x", "asked"],
    "sg_check": ["p", "q", "g", "y", "shown"],
    "sg_make": ["p", "q", "g", "y", "asked", "answer"],
    "sg_find": ["p", "q", "g", "y", "s", "t"],
    "sg_same": ["p", "q", "g", "h", "y", "z", "s", "t"],
    "sg_either": ["p", "q", "g", "y", "z", "asked", "s", "t"],
}

USED_OF_PYTHON = {"range"}


def package_files():
    return sorted(path for path in PACKAGE.rglob("*") if path.is_file() and "__pycache__" not in path.parts)


def many_calls():
    calls = []
    for p, q, g in GOOD_GROUPS + NOT_GOOD_GROUPS:
        calls.append((knowing.sg_good, (p, q, g)))
        for base, x in ((g, 1), (1, 0), (0, 0), (g, q), (TOP, TOP)):
            calls.append((knowing.sg_power, (p, q, g, base, x)))
            calls.append((knowing.sg_answer, (p, q, g, x, 1, x)))
            calls.append((knowing.sg_make, (p, q, g, base, 1, x)))
            for shown in ([g, 0, 1], [1, 1, 1], [base, x, x]):
                calls.append((knowing.sg_check, (p, q, g, base, shown)))
                calls.append((knowing.sg_find, (p, q, g, base, shown, [1, 0, 0])))
                calls.append((knowing.sg_find, (p, q, g, base, shown, shown)))
                calls.append((knowing.sg_same, (p, q, g, g, base, base, shown, shown)))
                calls.append((knowing.sg_same, (p, q, g, base, g, 1, shown, [1, 1, 1])))
                calls.append((knowing.sg_either, (p, q, g, base, g, x, shown, [1, 0, 0])))
                calls.append((knowing.sg_either, (p, q, g, base, base, 0, shown, shown)))
    return calls


def module_values():
    return {name: repr(value) for name, value in vars(knowing).items() if name != "__builtins__"}


class Interface(unittest.TestCase):
    def test_names_and_arguments(self):
        for name, arguments in ARGUMENTS.items():
            parameters = inspect.signature(getattr(knowing, name)).parameters
            self.assertEqual(list(parameters), arguments)
            for parameter in parameters.values():
                self.assertIs(parameter.default, inspect.Parameter.empty)

    def test_these_calls_alone(self):
        self.assertEqual([name for name in vars(knowing) if name.startswith("sg_")], list(ARGUMENTS))

    def test_arguments_by_name(self):
        self.assertEqual(knowing.sg_good(g=2, q=11, p=23), [1])
        self.assertEqual(knowing.sg_power(x=5, base=2, g=2, q=11, p=23), [0, 9])
        self.assertEqual(knowing.sg_answer(asked=5, x=4, r=3, g=2, q=11, p=23), [0, 1])
        self.assertEqual(knowing.sg_check(shown=[8, 5, 1], y=16, g=2, q=11, p=23), [1])
        self.assertEqual(knowing.sg_make(answer=1, asked=5, y=16, g=2, q=11, p=23), [0, 8])
        self.assertEqual(knowing.sg_find(t=[8, 2, 0], s=[8, 5, 1], y=16, g=2, q=11, p=23), [0, 4])
        self.assertEqual(knowing.sg_same(t=[4, 5, 1], s=[8, 5, 1], z=12, y=16, h=3, g=2, q=11, p=23), [1])
        self.assertEqual(knowing.sg_either(t=[6, 9, 6], s=[8, 5, 1], asked=3, z=13, y=16, g=2, q=11, p=23), [1])

    def test_every_call_is_tried(self):
        self.assertEqual({call.__name__ for call, handed_in in many_calls()}, set(ARGUMENTS))

    def test_nothing_is_kept(self):
        calls = many_calls()
        before = module_values()
        forwards = [call(*handed_in) for call, handed_in in calls]
        for answer in [call(*handed_in) for call, handed_in in calls]:
            answer.append(7)
        backwards = [call(*handed_in) for call, handed_in in reversed(calls)]
        self.assertEqual(forwards, backwards[::-1])
        self.assertEqual(module_values(), before)

    def test_nothing_is_printed(self):
        out = io.StringIO()
        with contextlib.redirect_stdout(out), contextlib.redirect_stderr(out):
            for call, handed_in in many_calls():
                call(*handed_in)
        self.assertEqual(out.getvalue(), "")

    def test_package_holds_its_files_alone(self):
        self.assertEqual([path.name for path in package_files()], ["__init__.py", "knowing.py"])

    def test_nothing_is_imported_and_little_of_python_used(self):
        for path in package_files():
            for node in ast.walk(ast.parse(path.read_text(encoding="utf-8"))):
                self.assertNotIsInstance(node, (ast.Import, ast.ImportFrom, ast.Attribute), path.name)
                if isinstance(node, ast.Name) and hasattr(builtins, node.id):
                    self.assertIn(node.id, USED_OF_PYTHON)

    def test_nothing_is_stored_in_what_is_handed_in(self):
        # With no attribute used either, a list could only be changed, for a while or for good, by its index or by +=.
        for path in package_files():
            for node in ast.walk(ast.parse(path.read_text(encoding="utf-8"))):
                self.assertNotIsInstance(node, ast.AugAssign, path.name)
                if isinstance(node, ast.Subscript):
                    self.assertIsInstance(node.ctx, ast.Load, path.name)

    def test_size_and_signs(self):
        for path in package_files():
            text = path.read_text(encoding="utf-8")
            self.assertTrue(all(sign == "\n" or " " <= sign <= "~" for sign in text))
            self.assertLessEqual(len(text.splitlines()), 400)
            self.assertLessEqual(max(len(line) for line in text.splitlines()), 120)
            for node in ast.walk(ast.parse(text)):
                if isinstance(node, ast.FunctionDef):
                    self.assertLessEqual(node.end_lineno - node.lineno + 1, 40, node.name)


if __name__ == "__main__":
    unittest.main()
