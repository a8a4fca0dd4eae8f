"""The form of the package's files, as far as it can be looked at simply."""

import ast
import builtins
import unittest
from pathlib import Path

TOP = Path(__file__).resolve().parent.parent
PACKAGE = TOP / "idlewishes"
FILES = sorted(PACKAGE.rglob("*.py"))

# What the program may use of Python's own names.
BUILTINS = """
    len range enumerate zip min max sum abs sorted reversed int str bool bytes list tuple dict set frozenset
    isinstance ord repr any all divmod iter next map super property staticmethod classmethod NotImplemented
    Exception ValueError TypeError KeyError IndexError LookupError ZeroDivisionError ArithmeticError
    OverflowError RuntimeError NotImplementedError StopIteration
""".split()


def trees():
    """Each file of the package with its tree."""
    for file in FILES:
        yield file, ast.parse(file.read_text(encoding="ascii"))


def imported(tree):
    """The pairs of module and name that a file imports."""
    return [
        (node.module, alias.name)
        for node in ast.walk(tree) if isinstance(node, ast.ImportFrom)
        for alias in node.names
    ]


class TestForm(unittest.TestCase):
    def test_nothing_but_python_files(self):
        for path in PACKAGE.rglob("*"):
            if "__pycache__" not in path.parts and path.is_file():
                self.assertEqual(path.suffix, ".py", path)
                self.assertEqual(path.name, path.name.lower())
        self.assertIn(PACKAGE / "__init__.py", FILES)

    def test_characters_and_lines(self):
        for file in FILES:
            text = file.read_bytes()
            self.assertTrue(all(byte == 10 or 32 <= byte <= 126 for byte in text), file)
            lines = text.split(b"\n")
            self.assertLessEqual(len(lines), 400, file)
            self.assertTrue(all(len(line) <= 120 for line in lines), file)

    def test_functions_are_small(self):
        for file, tree in trees():
            for node in ast.walk(tree):
                if isinstance(node, (ast.FunctionDef, ast.Lambda)):
                    self.assertLessEqual(node.end_lineno - node.lineno + 1, 40, (file, node.lineno))

    def test_no_percent_sign_in_strings(self):
        for file, tree in trees():
            for node in ast.walk(tree):
                if isinstance(node, ast.Constant) and isinstance(node.value, str):
                    self.assertNotIn("%", node.value, (file, node.lineno))

    def test_imports_name_the_defining_file(self):
        for file, tree in trees():
            self.assertFalse([node for node in ast.walk(tree) if isinstance(node, ast.Import)], file)
            for module, name in imported(tree):
                self.assertTrue(module.startswith("idlewishes."), (file, module))
                source = TOP / (module.replace(".", "/") + ".py")
                made = [
                    target
                    for node in ast.parse(source.read_text(encoding="ascii")).body
                    for target in (
                        [node.name] if isinstance(node, (ast.FunctionDef, ast.ClassDef))
                        else [at.id for at in node.targets] if isinstance(node, ast.Assign) else []
                    )
                ]
                self.assertIn(name, made, (file, module))

    def test_imports_are_used_and_go_in_no_circle(self):
        leads = {}
        for file, tree in trees():
            leads["idlewishes." + file.stem] = {module for module, _ in imported(tree)}
            used = {node.id for node in ast.walk(tree) if isinstance(node, ast.Name)}
            for _, name in imported(tree):
                self.assertIn(name, used, file)
        while leads:
            free = [module for module, after in leads.items() if not after & set(leads)]
            self.assertTrue(free, leads)
            for module in free:
                del leads[module]

    def test_builtins(self):
        for file, tree in trees():
            for node in ast.walk(tree):
                if isinstance(node, ast.Name) and hasattr(builtins, node.id):
                    self.assertIn(node.id, BUILTINS, (file, node.lineno))


if __name__ == "__main__":
    unittest.main()
