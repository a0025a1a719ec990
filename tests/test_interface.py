"""The interface of DOC.md: each name stands, as told, in the file that lists it."""

import ast
import os
import unittest

PACKAGE = os.path.join(os.path.dirname(os.path.dirname(os.path.abspath(__file__))), "callsmith")

CLASSES = {
    "errors": ("SmithError", "NameTwice", "NoSuchName", "NoSuchFunction", "WrongCount",
               "TooTall", "ByNought", "TooGreat", "TooDeep", "Dry"),
    "smith": ("Code",),
}
METHODS = {"smith": {"Code": {"__init__": ["self", "rows", "starts"]}}}
FUNCTIONS = {
    "deeds": {"reckoned": ["word", "one", "other"]},
    "trees": {"within": ["tree"], "checked": ["program"]},
    "telling": {"told": ["program", "name", "values", "fuel"]},
    "smith": {"smithed": ["program"]},
    "machine": {"run": ["code", "name", "values", "fuel"]},
}
VALUES = {"deeds": ("MOST",)}


def rows_of(module):
    with open(os.path.join(PACKAGE, module + ".py"), encoding="utf-8") as file:
        return ast.parse(file.read()).body


def arguments(rows):
    """The arguments of the functions that stand in these rows, by their names."""
    return {row.name: [arg.arg for arg in row.args.args]
            for row in rows if isinstance(row, ast.FunctionDef)}


def files():
    return sorted(name for name in os.listdir(PACKAGE) if name != "__pycache__")


class Interface(unittest.TestCase):
    def test_classes_are_defined_in_their_files(self):
        for module, names in CLASSES.items():
            found = [row.name for row in rows_of(module) if isinstance(row, ast.ClassDef)]
            for name in names:
                self.assertEqual(found.count(name), 1, name)

    def test_functions_are_defined_in_their_files(self):
        for module, functions in FUNCTIONS.items():
            found = arguments(rows_of(module))
            for name, args in functions.items():
                self.assertEqual(found.get(name), args, name)

    def test_methods_are_defined_in_their_classes(self):
        for module, classes in METHODS.items():
            found = {row.name: arguments(row.body)
                     for row in rows_of(module) if isinstance(row, ast.ClassDef)}
            for name, methods in classes.items():
                for method, args in methods.items():
                    self.assertEqual(found[name].get(method), args, (name, method))

    def test_values_are_assigned_in_their_files(self):
        for module, names in VALUES.items():
            found = [row.targets[0].id for row in rows_of(module) if isinstance(row, ast.Assign)]
            for name in names:
                self.assertEqual(found.count(name), 1, name)


class Layout(unittest.TestCase):
    """The sizes and signs of LANGUAGE.md that a reader overlooks most easily."""

    def test_the_package_holds_plain_python_files_alone(self):
        self.assertIn("__init__.py", files())
        for name in files():
            self.assertRegex(name, r"\A[a-z_0-9]+\.py\Z")

    def test_lines_and_signs(self):
        for name in files():
            with open(os.path.join(PACKAGE, name), "rb") as file:
                data = file.read()
            lines = data.split(b"\n")
            self.assertLessEqual(len(lines), 399, name)
            for line in lines:
                self.assertLessEqual(len(line), 120, (name, line))
                self.assertTrue(all(32 <= sign <= 126 for sign in line), (name, line))

    def test_functions_are_small(self):
        for name in files():
            for row in rows_of(name[:-3]):
                for part in ast.walk(row):
                    if isinstance(part, ast.FunctionDef):
                        self.assertLessEqual(part.end_lineno - part.lineno + 1, 40, part.name)


if __name__ == "__main__":
    unittest.main()
