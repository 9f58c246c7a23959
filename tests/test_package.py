import ast
import builtins
import subprocess
import sys
import unittest
from pathlib import Path

ROOT = Path(__file__).resolve().parent.parent
PACKAGE = ROOT / "stillpoint"
# Python's own names that neither reach outside the program nor depend on the machine.
HARMLESS = (
    "len", "range", "enumerate", "zip", "min", "max", "sum", "abs", "sorted", "reversed",
    "int", "str", "bool", "list", "tuple", "dict", "set", "frozenset", "isinstance", "ord",
    "repr", "any", "all", "divmod", "Exception", "ValueError", "TypeError", "KeyError",
    "IndexError", "LookupError", "ZeroDivisionError", "ArithmeticError", "OverflowError",
    "RuntimeError", "NotImplementedError", "AttributeError", "StopIteration",
)
BOUND_BY_INIT = """
import stillpoint
print([name for name in vars(stillpoint) if not name.startswith("__")])
"""


def trees():
    return [(path, ast.parse(path.read_text("ascii"))) for path in sorted(PACKAGE.rglob("*.py"))]


class Promise1(unittest.TestCase):
    def test_nothing_is_imported_but_the_package_itself(self):
        for path, tree in trees():
            for node in ast.walk(tree):
                with self.subTest(path=path.name):
                    self.assertNotIsInstance(node, ast.Import)
                    if isinstance(node, ast.ImportFrom):
                        self.assertEqual(node.level, 0)
                        self.assertEqual(node.module.split(".")[0], "stillpoint")

    def test_no_name_of_python_reaches_outside(self):
        for path, tree in trees():
            for node in ast.walk(tree):
                if isinstance(node, ast.Name) and hasattr(builtins, node.id):
                    with self.subTest(path=path.name, name=node.id):
                        self.assertIn(node.id, HARMLESS)


class Package(unittest.TestCase):
    def test_only_python_files_lie_in_it(self):
        others = [
            path.name for path in PACKAGE.rglob("*")
            if path.suffix != ".py" and "__pycache__" not in path.parts
        ]
        self.assertEqual(others, [])
        self.assertTrue((PACKAGE / "__init__.py").is_file())

    def test_init_binds_nothing(self):
        answer = subprocess.run(
            [sys.executable, "-c", BOUND_BY_INIT], cwd=ROOT, capture_output=True, text=True, check=True
        )
        self.assertEqual(answer.stdout.strip(), "[]")


if __name__ == "__main__":
    unittest.main()
