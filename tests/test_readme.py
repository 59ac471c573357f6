"""What README.md shows is what the program does."""

import ast
import pathlib
import re
import unittest

README = pathlib.Path(__file__).resolve().parent.parent / "README.md"


class TestExamples(unittest.TestCase):
    def test_examples(self):
        """Each expression has the value that its comment begins with, where this is written out."""
        text = README.read_text(encoding="utf-8")
        code = "\n".join(re.findall("```python\n(.*?)```", text, re.DOTALL))
        lines = code.split("\n")
        known = {}
        seen = 0
        for node in ast.parse(code).body:
            if not isinstance(node, ast.Expr):
                exec(compile(ast.Module([node], []), "README.md", "exec"), known)
                continue
            value = eval(compile(ast.Expression(node.value), "README.md", "eval"), known)
            comment = lines[node.end_lineno - 1].partition(" # ")[2]
            told = self.value_in(comment)
            if told is not None:
                self.assertEqual(repr(value), repr(told[0]), comment)
                seen += 1
        self.assertGreater(seen, 20)

    def value_in(self, comment):
        """The value with which a comment begins, in a tuple, or None."""
        for end in range(len(comment), 0, -1):
            if comment[end:end + 1] in ("", ":", ";", ","):
                try:
                    return (ast.literal_eval(comment[:end].strip()),)
                except (ValueError, SyntaxError):
                    continue
        return None


if __name__ == "__main__":
    unittest.main()
