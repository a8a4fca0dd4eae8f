"""The examples of README.md: they run, and tell what stands behind them."""

import ast
import re
import unittest
from pathlib import Path

README = Path(__file__).resolve().parent.parent / "README.md"


def examples():
    """The lines of the examples, each with the comment behind it, or None."""
    text = README.read_text(encoding="ascii")
    for block in re.findall(r"```python\n(.*?)```", text, re.DOTALL):
        for line in block.splitlines():
            code, _, told = line.partition("  #")
            if code.strip() and not code.startswith("#"):
                yield code.strip(), told.strip() or None


def literal(told):
    """The pair of True and what a comment begins with, if it is a value; else of False and None."""
    if told is not None:
        for text in (told, told.split(":")[0]):
            try:
                return True, ast.literal_eval(text)
            except (SyntaxError, ValueError):
                pass
    return False, None


class TestReadme(unittest.TestCase):
    def test_examples(self):
        names = {}
        count = 0
        for code, told in examples():
            try:
                value = eval(code, names)
            except SyntaxError:
                exec(code, names)
                continue
            is_value, wanted = literal(told)
            if is_value:
                self.assertEqual(value, wanted, code)
                count += 1
        self.assertGreater(count, 20)


if __name__ == "__main__":
    unittest.main()
