"""What README.md shows is what is told."""

import ast
import unittest
from pathlib import Path

README = Path(__file__).resolve().parent.parent / "README.md"


def literal(text):
    """The value that a comment shows, if it shows one."""
    try:
        return True, ast.literal_eval(text.split(";")[0].split(":")[0].strip())
    except (SyntaxError, ValueError):
        return False, None


class Readme(unittest.TestCase):

    def test_examples(self):
        names = {}
        shown = 0
        code = README.read_text().split("```python\n")[1].split("```")[0]
        for node in ast.parse(code).body:
            text = ast.get_source_segment(code, node)
            if not isinstance(node, ast.Expr):
                exec(text, names)
                continue
            told = eval(text, names)
            is_shown, value = literal(code.split("\n")[node.end_lineno - 1][node.end_col_offset:].partition("#")[2])
            if is_shown:
                shown += 1
                self.assertEqual(told, value, text)
        self.assertGreaterEqual(shown, 10)


if __name__ == "__main__":
    unittest.main()
