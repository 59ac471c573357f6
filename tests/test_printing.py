"""Points 11 to 14."""

import unittest

from neverhappens.printing import expression_text, function_text, kind_text, program_text
from tests.samples import (
    A, DOOR, DOOR_TEXT, EMPTY, EXPRESSIONS, NESTED, OPERATORS, SIMPLE, STOP, function_with,
)


class TestExpressions(unittest.TestCase):
    def test_each_expression(self):
        for expression, text in EXPRESSIONS:
            self.assertEqual(expression_text(expression), text)

    def test_each_operator(self):
        for operator in OPERATORS:
            text = expression_text((operator, A, ("num", 5)))
            self.assertEqual(text, "(a " + operator + " 5)")

    def test_six_operators_within_one_another(self):
        expression = ("num", 1)
        text = "1"
        for _ in range(6):
            expression = ("+", A, expression)
            text = "(a + " + text + ")"
        self.assertEqual(expression_text(expression), text)


class TestKinds(unittest.TestCase):
    def test_each_kind(self):
        self.assertEqual(kind_text(("flag",)), "flag")
        self.assertEqual(kind_text(("num", -3, 9)), "-3..9")
        self.assertEqual(kind_text(("num", 0, 0)), "0..0")
        self.assertEqual(kind_text(("num", -10 ** 9, 10 ** 9)), "-1000000000..1000000000")
        self.assertEqual(kind_text(("ref", "door")), "door")

    def test_ends_in_the_wrong_order(self):
        self.assertEqual(kind_text(("num", 9, -3)), "9..-3")


class TestFunctions(unittest.TestCase):
    def test_each_statement(self):
        for statement, text in SIMPLE:
            wanted = "def f()\n  " + text + "\nend\n"
            self.assertEqual(function_text(function_with(statement)), wanted)

    def test_bodies(self):
        for statement, lines in NESTED:
            wanted = "def f()\n" + "".join("  " + line + "\n" for line in lines) + "end\n"
            self.assertEqual(function_text(function_with(statement)), wanted)

    def test_statement_behind_a_body(self):
        body = (("while", A, (("if", A, (), ()),)), STOP)
        wanted = "def f()\n  while a\n    if a\n    end\n  end\n  return\nend\n"
        self.assertEqual(function_text(function_with(*body)), wanted)

    def test_nesting_eight_deep(self):
        body = (STOP,)
        for _ in range(8):
            body = (("while", A, body),)
        lines = function_text(function_with(*body)).split("\n")
        for depth in range(8):
            self.assertEqual(lines[1 + depth], "  " * (depth + 1) + "while a")
            self.assertEqual(lines[17 - depth], "  " * (depth + 1) + "end")
        self.assertEqual(lines[9], "  " * 9 + "return")
        self.assertEqual(lines[18:], ["end", ""])

    def test_empty_function(self):
        self.assertEqual(function_text(("f", (), None, (), ())), "def f()\nend\n")

    def test_head_and_locals(self):
        params = (("a", ("flag",)), ("b", ("num", 0, 3)), ("c", ("ref", "r")))
        own = (("d", ("num", -2, -1)), ("e", ("ref", "r")))
        wanted = "def f(a: flag, b: 0..3, c: r): -1..1\n  var d: -2..-1\n  var e: r\nend\n"
        self.assertEqual(function_text(("f", params, ("num", -1, 1), own, ())), wanted)

    def test_each_result(self):
        self.assertEqual(function_text(("f", (), ("flag",), (), ())), "def f(): flag\nend\n")
        self.assertEqual(function_text(("f", (), ("ref", "r"), (), ())), "def f(): r\nend\n")
        self.assertEqual(
            function_text(("f", (("a", ("flag",)),), None, (), ())), "def f(a: flag)\nend\n"
        )


class TestPrograms(unittest.TestCase):
    def test_program_of_the_document(self):
        self.assertEqual(program_text(DOOR), DOOR_TEXT)

    def test_program_without_anything(self):
        self.assertEqual(program_text(EMPTY), "")

    def test_each_section(self):
        self.assertEqual(program_text(((("r", ()),), (), (), ())), "record r\nend\n")
        fields = (("f", ("flag",)), ("g", ("num", 9, 1)), ("h", ("ref", "r")))
        self.assertEqual(
            program_text(((("r", fields),), (), (), ())),
            "record r\n  f: flag\n  g: 9..1\n  h: r\nend\n",
        )
        self.assertEqual(program_text(((), (("a", 64, -3, 9),), (), ())), "array a[64]: -3..9\n")
        self.assertEqual(program_text(((), (("a", -1, 9, 0),), (), ())), "array a[-1]: 9..0\n")
        self.assertEqual(program_text(((), (), (("x", ("flag",)),), ())), "global x: flag\n")
        self.assertEqual(program_text(((), (), (), (function_with(),))), "def f()\nend\n")

    def test_sections_in_their_order(self):
        records = (("r", ()), ("q", (("f", ("ref", "r")),)))
        arrays = (("b", 1, 0, 1), ("a", 2, 0, 1))
        shared = (("y", ("flag",)), ("x", ("ref", "q")))
        functions = (("g", (), None, (), ()), ("f", (), None, (), ()))
        self.assertEqual(
            program_text((records, arrays, shared, functions)),
            "record r\nend\nrecord q\n  f: r\nend\narray b[1]: 0..1\narray a[2]: 0..1\n"
            "global y: flag\nglobal x: q\ndef g()\nend\ndef f()\nend\n",
        )

    def test_no_trailing_spaces(self):
        for line in program_text(DOOR).split("\n"):
            self.assertEqual(line, line.rstrip())


if __name__ == "__main__":
    unittest.main()
