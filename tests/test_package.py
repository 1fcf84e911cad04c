"""Tests of the package as a whole: its interface, and that it only takes and answers values."""

import ast
import contextlib
import inspect
import io
import pathlib
import unittest

import middleseats
from middleseats import parties

FOLDER = pathlib.Path(middleseats.__file__).parent


class InterfaceTest(unittest.TestCase):
    ARGUMENTS = {
        "middle": ["seats", "places"],
        "joined": ["s", "seats", "places"],
        "tight": ["seats", "places"],
        "narrowest": ["seats", "places"],
        "centre": ["seats", "places"],
        "motion": ["x", "y", "seats", "places"],
        "moved": ["i", "x", "seats", "places"],
    }

    def test_names_and_arguments(self):
        for name, arguments in self.ARGUMENTS.items():
            signature = inspect.signature(getattr(parties, name))
            self.assertEqual(list(signature.parameters), arguments)

    def test_nothing_is_printed(self):
        printed = io.StringIO()
        with contextlib.redirect_stdout(printed), contextlib.redirect_stderr(printed):
            parties.middle([1, 2], [3, 4])
            parties.middle([], [])
            parties.joined(1, [1, 2], [3, 4])
            parties.joined(4, [1, 2], [3, 4])
            parties.tight([1, 2], [3, 4])
            parties.tight([], [])
            parties.narrowest([1, 2], [3, 4])
            parties.narrowest([], [])
            parties.centre([1, 2], [3, 4])
            parties.centre([], [])
            parties.motion(3, 4, [1, 2], [3, 4])
            parties.motion(101, 4, [1, 2], [3, 4])
            parties.moved(1, 0, [1, 2], [3, 4])
            parties.moved(2, 0, [1, 2], [3, 4])
        self.assertEqual(printed.getvalue(), "")


class FormTest(unittest.TestCase):
    def sources(self):
        return [(path.name, path.read_text(encoding="utf-8")) for path in sorted(FOLDER.glob("*.py"))]

    def test_only_python_files_lie_in_the_package(self):
        others = [path.name for path in FOLDER.iterdir() if path.suffix != ".py" and path.name != "__pycache__"]
        self.assertEqual(others, [])

    def test_plain_signs_and_sizes(self):
        for name, source in self.sources():
            self.assertTrue(all(sign == "\n" or " " <= sign <= "~" for sign in source), name)
            self.assertLessEqual(len(source.splitlines()), 400, name)
            self.assertLessEqual(max(len(line) for line in source.splitlines()), 120, name)

    def test_short_functions(self):
        for name, source in self.sources():
            for node in ast.walk(ast.parse(source)):
                if isinstance(node, ast.FunctionDef):
                    self.assertLessEqual(node.end_lineno - node.lineno + 1, 40, (name, node.name))

    def test_nothing_is_imported(self):
        for name, source in self.sources():
            for node in ast.walk(ast.parse(source)):
                self.assertNotIsInstance(node, (ast.Import, ast.ImportFrom), name)


if __name__ == "__main__":
    unittest.main()
