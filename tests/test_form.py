"""The form of the package's files, as far as it can be looked at simply."""

import ast
import builtins
import unittest
from pathlib import Path

TOP = Path(__file__).resolve().parent.parent
PACKAGE = TOP / "idlewishes"
FILES = sorted(PACKAGE.rglob("*.py"))

# What the program may use of Python's own names.
BUILTINS = """
    len range enumerate zip min max sum abs sorted reversed int str bool bytes list tuple dict set frozenset
    isinstance ord repr any all divmod iter next map super property staticmethod classmethod NotImplemented
    Exception ValueError TypeError KeyError IndexError LookupError ZeroDivisionError ArithmeticError
    OverflowError RuntimeError NotImplementedError StopIteration
""".split()

# Words that stand nowhere in the program.
BARRED = """
    register mro elements open input law version_info with_traceback add_note type typing typing_extensions enum Enum
    IntEnum StrEnum Flag IntFlag Generic Protocol ABC ABCMeta namedtuple NamedTuple TypedDict TYPE_CHECKING
    abstractmethod dataclass overload contextmanager attrgetter breakpoint compile delattr dir eval exec exit gc
    getattr globals hasattr help id importlib license locals os quit setattr vars format sort sys
""".split()


def trees():
    """Each file of the package with its tree."""
    for file in FILES:
        yield file, ast.parse(file.read_text(encoding="ascii"))


def imported(tree):
    """The pairs of module and name that a file imports."""
    return [
        (node.module, alias.name)
        for node in ast.walk(tree) if isinstance(node, ast.ImportFrom)
        for alias in node.names
    ]


class TestForm(unittest.TestCase):
    def test_nothing_but_python_files(self):
        for path in PACKAGE.rglob("*"):
            if "__pycache__" not in path.parts and path.is_file():
                self.assertEqual(path.suffix, ".py", path)
                self.assertEqual(path.name, path.name.lower())
        self.assertIn(PACKAGE / "__init__.py", FILES)

    def test_characters_and_lines(self):
        for file in FILES:
            text = file.read_bytes()
            self.assertTrue(all(byte == 10 or 32 <= byte <= 126 for byte in text), file)
            lines = text.split(b"\n")
            self.assertLessEqual(len(lines), 400, file)
            self.assertTrue(all(len(line) <= 120 for line in lines), file)

    def test_functions_are_small(self):
        for file, tree in trees():
            for node in ast.walk(tree):
                if isinstance(node, (ast.FunctionDef, ast.Lambda)):
                    self.assertLessEqual(node.end_lineno - node.lineno + 1, 40, (file, node.lineno))

    def test_no_percent_sign_in_strings(self):
        for file, tree in trees():
            for node in ast.walk(tree):
                if isinstance(node, ast.Constant) and isinstance(node.value, str):
                    self.assertNotIn("%", node.value, (file, node.lineno))

    def test_imports_name_the_defining_file(self):
        for file, tree in trees():
            self.assertFalse([node for node in ast.walk(tree) if isinstance(node, ast.Import)], file)
            for module, name in imported(tree):
                self.assertTrue(module.startswith("idlewishes."), (file, module))
                source = TOP / (module.replace(".", "/") + ".py")
                made = [
                    target
                    for node in ast.parse(source.read_text(encoding="ascii")).body
                    for target in (
                        [node.name] if isinstance(node, (ast.FunctionDef, ast.ClassDef))
                        else [at.id for at in node.targets] if isinstance(node, ast.Assign) else []
                    )
                ]
                self.assertIn(name, made, (file, module))

    def test_imports_are_used_and_go_in_no_circle(self):
        leads = {}
        for file, tree in trees():
            leads["idlewishes." + file.stem] = {module for module, _ in imported(tree)}
            used = {node.id for node in ast.walk(tree) if isinstance(node, ast.Name)}
            for _, name in imported(tree):
                self.assertIn(name, used, file)
        while leads:
            free = [module for module, after in leads.items() if not after & set(leads)]
            self.assertTrue(free, leads)
            for module in free:
                del leads[module]

    def test_builtins(self):
        for file, tree in trees():
            for node in ast.walk(tree):
                if isinstance(node, ast.Name) and hasattr(builtins, node.id):
                    self.assertIn(node.id, BUILTINS, (file, node.lineno))

    def test_nothing_that_is_left_out(self):
        barred = (
            ast.GeneratorExp, ast.Global, ast.AsyncFunctionDef, ast.AsyncFor, ast.AsyncWith, ast.Await, ast.Yield,
            ast.YieldFrom, ast.Div, ast.MatMult, ast.Delete, ast.Match,
        )
        for file, tree in trees():
            for node in ast.walk(tree):
                self.assertNotIsInstance(node, barred, (file, getattr(node, "lineno", None)))
                if isinstance(node, ast.Constant):
                    self.assertNotIsInstance(node.value, (float, complex, bytes), (file, node.lineno))
                if isinstance(node, ast.ClassDef):
                    self.assertEqual(node.decorator_list, [], (file, node.lineno))
                if isinstance(node, ast.FunctionDef):
                    told = [decorator.id for decorator in node.decorator_list]
                    self.assertIn(told, ([], ["property"]), (file, node.lineno))

    def test_barred_words(self):
        for file, tree in trees():
            names = {node.id for node in ast.walk(tree) if isinstance(node, ast.Name)}
            names |= {node.attr for node in ast.walk(tree) if isinstance(node, ast.Attribute)}
            names |= {node.arg for node in ast.walk(tree) if isinstance(node, ast.arg)}
            names |= {node.name for node in ast.walk(tree) if isinstance(node, (ast.FunctionDef, ast.ClassDef))}
            self.assertFalse(names & set(BARRED), file)
            strings = [
                node.value for node in ast.walk(tree) if isinstance(node, ast.Constant) and isinstance(node.value, str)
            ]
            docstrings = [
                ast.get_docstring(node, clean=False) for node in ast.walk(tree)
                if isinstance(node, (ast.Module, ast.FunctionDef, ast.ClassDef))
            ]
            for text in strings:
                if text not in docstrings:
                    self.assertFalse(set(text.split()) & set(BARRED) - {"open"}, (file, text))
                    self.assertFalse(text.endswith(("._", ".__")), (file, text))

    def test_names_mean_one_thing(self):
        for file, tree in trees():
            fixed = {name for _, name in imported(tree)}
            fixed |= {node.name for node in tree.body if isinstance(node, ast.ClassDef)} | set(dir(builtins))
            for node in ast.walk(tree):
                if isinstance(node, ast.arg):
                    self.assertNotIn(node.arg, fixed, (file, node.lineno))
                if isinstance(node, ast.Name) and isinstance(node.ctx, ast.Store):
                    self.assertNotIn(node.id, fixed, (file, node.lineno))
            bound = [name for _, name in imported(tree)]
            for node in tree.body:
                if isinstance(node, (ast.FunctionDef, ast.ClassDef)):
                    bound.append(node.name)
                if isinstance(node, ast.Assign):
                    bound += [target.id for target in node.targets]
            self.assertEqual(len(bound), len(set(bound)), file)

    def test_methods_and_attributes_have_unlike_names(self):
        methods, stored, read = [], set(), []
        for _, tree in trees():
            for node in ast.walk(tree):
                if isinstance(node, ast.ClassDef):
                    methods += [part.name for part in node.body if isinstance(part, ast.FunctionDef)]
                if isinstance(node, ast.Attribute) and isinstance(node.ctx, ast.Store):
                    stored.add(node.attr)
                elif isinstance(node, ast.Attribute):
                    read.append(node.attr)
        self.assertFalse(stored & set(methods))
        builtin = set(dir(str) + dir(list) + dir(dict) + dir(set) + dir(int) + dir(bytes) + dir(tuple))
        self.assertFalse(stored & builtin)
        self.assertLessEqual(set(read), stored | set(methods) | builtin)

    def test_sets_stand_in_sorted_alone(self):
        for file, tree in trees():
            inner = [
                node.args[0] for node in ast.walk(tree)
                if isinstance(node, ast.Call) and isinstance(node.func, ast.Name) and node.func.id == "sorted"
            ]
            for node in ast.walk(tree):
                if isinstance(node, (ast.Set, ast.SetComp)):
                    self.assertIn(node, inner, (file, node.lineno))

    def test_what_others_use_has_docstrings(self):
        for file, tree in trees():
            self.assertIsNotNone(ast.get_docstring(tree), file)
            for node in tree.body:
                if isinstance(node, (ast.FunctionDef, ast.ClassDef)) and not node.name.startswith("_"):
                    self.assertIsNotNone(ast.get_docstring(node), (file, node.name))


if __name__ == "__main__":
    unittest.main()
