"""No clock, chance or files: the package draws on nothing but itself and a few plain names."""

import ast
import builtins
import pathlib
import unittest

PACKAGE = pathlib.Path(__file__).resolve().parent.parent / "lendyard"

PLAIN_NAMES = set(
    """len range enumerate zip min max sum abs sorted reversed int str bool list tuple dict set frozenset
    isinstance ord repr any all divmod Exception ValueError TypeError KeyError IndexError LookupError
    ZeroDivisionError ArithmeticError OverflowError RuntimeError NotImplementedError AttributeError
    StopIteration""".split()
)


def foreign_imports(tree):
    found = []
    for node in ast.walk(tree):
        if isinstance(node, ast.Import):
            found.extend(alias.name for alias in node.names)
        elif isinstance(node, ast.ImportFrom):
            if node.level != 0 or node.module.split(".")[0] != "lendyard":
                found.append(node.module)
    return found


def foreign_names(tree):
    names = {node.id for node in ast.walk(tree) if isinstance(node, ast.Name)}
    return sorted(name for name in names if hasattr(builtins, name) and name not in PLAIN_NAMES)


class PackageTest(unittest.TestCase):
    def files(self):
        found = sorted(PACKAGE.rglob("*.py"))
        for name in ("__init__", "amounts", "day", "errors", "lending", "ways"):
            self.assertIn(PACKAGE / f"{name}.py", found)
        return found

    def trees(self):
        return [(path.name, ast.parse(path.read_text(encoding="utf-8"))) for path in self.files()]

    def test_imports_nothing_but_itself(self):
        for name, tree in self.trees():
            with self.subTest(file=name):
                self.assertEqual(foreign_imports(tree), [])

    def test_calls_no_other_name_of_python(self):
        for name, tree in self.trees():
            with self.subTest(file=name):
                self.assertEqual(foreign_names(tree), [])

    def test_whole_numbers_alone(self):
        for name, tree in self.trees():
            with self.subTest(file=name):
                for node in ast.walk(tree):
                    self.assertNotIsInstance(node, ast.Div)
                    if isinstance(node, ast.Constant):
                        self.assertNotIsInstance(node.value, (float, complex, bytes))

    def test_short_functions(self):
        for name, tree in self.trees():
            for node in ast.walk(tree):
                if isinstance(node, ast.FunctionDef):
                    with self.subTest(file=name, function=node.name):
                        self.assertLessEqual(node.end_lineno - node.lineno + 1, 40)

    def test_plain_signs_and_short_rows(self):
        for path in self.files():
            with self.subTest(file=path.name):
                rows = path.read_bytes().decode("ascii").split("\n")
                self.assertLessEqual(len(rows), 401)
                for row in rows:
                    self.assertLessEqual(len(row), 120)
                    self.assertTrue(all(" " <= sign <= "~" for sign in row), row)


if __name__ == "__main__":
    unittest.main()
