"""The form of the package's files: their sizes, signs and imports."""

import ast
import pathlib
import unittest

import moveseen

PACKAGE = pathlib.Path(moveseen.__file__).parent
LIBRARY = {"heapq", "math", "itertools", "collections", "__future__"}


def files_of_package():
    return [path for path in sorted(PACKAGE.rglob("*")) if path.is_file() and path.suffix != ".pyc"]


class FormTest(unittest.TestCase):
    def test_only_python_files(self):
        for path in files_of_package():
            self.assertEqual(path.suffix, ".py", path)
            self.assertEqual(path.name, path.name.lower())

    def test_sizes_and_signs(self):
        for path in files_of_package():
            text = path.read_text(encoding="utf-8")
            lines = text.splitlines()
            with self.subTest(path=path):
                self.assertLessEqual(len(lines), 399)
                self.assertLessEqual(max(map(len, lines), default=0), 120)
                self.assertTrue(all(" " <= sign <= "~" or sign == "\n" for sign in text))

    def test_functions_are_small(self):
        for path in files_of_package():
            for part in ast.walk(ast.parse(path.read_text(encoding="utf-8"))):
                if isinstance(part, ast.FunctionDef):
                    with self.subTest(path=path, function=part.name):
                        self.assertLessEqual(part.end_lineno - part.lineno + 1, 40)

    def test_no_outside_imports(self):
        for path in files_of_package():
            for part in ast.walk(ast.parse(path.read_text(encoding="utf-8"))):
                with self.subTest(path=path):
                    self.assertNotIsInstance(part, ast.Import)
                    if isinstance(part, ast.ImportFrom):
                        self.assertEqual(part.level, 0)
                        self.assertIn(part.module.split(".")[0], {"moveseen", *LIBRARY})


if __name__ == "__main__":
    unittest.main()
