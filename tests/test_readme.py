"""Tests that the examples of README.md tell what happens."""

import ast
import unittest
from pathlib import Path

README = Path(__file__).resolve().parent.parent / "README.md"


def blocks():
    """Return the rows of Python of the README, without those that are left empty."""
    parts = README.read_text(encoding="ascii").split("```python\n")[1:]
    return [row for part in parts for row in part.split("```")[0].split("\n") if row]


def value_told(text):
    """Return the value with which a comment begins, up to its end, a colon or a comma behind it."""
    for end in range(len(text), 0, -1):
        if text[end:end + 1] in ("", ":", ","):
            try:
                return ast.literal_eval(text[:end])
            except (SyntaxError, ValueError):
                pass
    raise AssertionError("no value: " + text)


class TheReadme(unittest.TestCase):

    def test_its_examples(self):
        names = {}
        told = 0
        for row in blocks():
            code, _, comment = (part.strip() for part in row.partition("  # "))
            if not comment or isinstance(ast.parse(code).body[0], ast.Assign):
                exec(code, names)
            elif comment.startswith("raises "):
                with self.assertRaises(Exception) as caught:
                    exec(code, names)
                self.assertEqual(type(caught.exception).__name__, comment.split()[1].rstrip(";."))
                told += 1
            else:
                self.assertEqual(eval(code, names), value_told(comment), row)
                told += 1
        self.assertGreater(told, 15)


if __name__ == "__main__":
    unittest.main()
