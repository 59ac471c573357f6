"""Points 15 to 18."""

import random
import unittest

from neverhappens.errors import BadText
from neverhappens.printing import expression_text, function_text, program_text
from neverhappens.reading import read_expression, read_function, read_program
from tests.grammar import is_expression, refused_line
from tests.making import FreeMaker
from tests.samples import (
    A, B, DOOR, DOOR_TEXT, EMPTY, EXPRESSIONS, NESTED, OPERATORS, RESERVED, SIMPLE, STOP,
    function_with, nested_deep,
)


class ReadingCase(unittest.TestCase):
    def same(self, found, wanted):
        """Compares with the kinds of values: False is not 0, True is not 1."""
        self.assertEqual(repr(found), repr(wanted))

    def refused(self, read, text, line):
        with self.assertRaises(BadText) as caught:
            read(text)
        self.assertEqual(caught.exception.line, line, text)

    def line_refused(self, line):
        """The line is refused as a statement."""
        self.refused(read_function, "def f()\n  " + line + "\nend\n", 2)

    def line_read(self, line, statement):
        self.same(read_function("def f()\n  " + line + "\nend\n"), function_with(statement))


class TestExpressions(ReadingCase):
    def test_each_expression(self):
        for expression, text in EXPRESSIONS:
            self.same(read_expression(text), expression)

    def test_flags_are_no_numbers(self):
        self.assertIs(read_expression("true")[1], True)
        self.assertIs(read_expression("false")[1], False)
        self.assertIs(type(read_expression("0")[1]), int)
        self.assertIs(type(read_expression("1")[1]), int)

    def test_each_operator(self):
        for operator in OPERATORS:
            self.same(read_expression("(a " + operator + " -5)"), (operator, A, ("num", -5)))

    def test_no_expression(self):
        for text in (
            "", " ", "\n", "()", "(a)", "((a + b))", "a + b", "(a + b", "(a + b))", "a + b)", "(a",
            "(a +", "(a + ", "(a + )", "(+ a b)", "(a b)", "(a  + b)", "(a +  b)", "( a + b)",
            "(a + b )", "(a+b)", "(a +b)", "(a+ b)", " a", "a ", "a\n", "\na", "(a\n+ b)", "a b",
            "(a + b) + c", "(a + b + c)", "(not)", "(not )", "(not  a)", "not a", "(nota)",
            "(not a + b)", "(not not a)", "(a not b)", "(a / b)", "(a > b)", "(a >= b)", "(a = b)",
            "(a != b != c)", "(a is b)", "(- a)", "-a", "(a - - 5)", "- 5", "+5", "--5", "5-",
            "1a", "a-b", "a_b", "_a", "A", "aB", "true1x!", "x.f", "x[0]", "g()", "0x1", "1.0",
            "1e5", "a,b", "\t", "(a\t+ b)", "@", "(a +b )", "(a + b) ", "(null)", "(true)",
            "(a and)", "(and a b)", ")", ")(", "(a + b)(", "(a + (b)", "(a + (not b)",
        ):
            self.refused(read_expression, text, 1)

    def test_names_near_reserved_words(self):
        for text in ("nota", "notnot", "true1", "truth", "nulls", "ands", "or2", "samesame", "if2"):
            self.same(read_expression(text), ("name", text))
            self.same(read_expression("(not " + text + ")"), ("not", ("name", text)))

    def test_each_reserved_word(self):
        for word in RESERVED:
            if word in ("true", "false", "null"):
                self.assertNotEqual(read_expression(word)[0], "name")
            else:
                self.refused(read_expression, word, 1)
                self.refused(read_expression, "(" + word + " + a)", 1)
                self.refused(read_expression, "(a + " + word + ")", 1)
                self.refused(read_expression, "(not " + word + ")", 1)

    def test_long_names(self):
        name = "a" * 5000 + "9"
        self.same(read_expression(name), ("name", name))

    def test_thousands_of_brackets_that_stay_open(self):
        self.refused(read_expression, "(" * 20000, 1)
        self.refused(read_expression, "(not " * 4000, 1)
        self.refused(read_expression, "(a + " * 4000 + "b" + ")" * 3999, 1)
        self.refused(read_expression, "a" + ")" * 19999, 1)

    def test_by_chance_there_and_back(self):
        maker = FreeMaker(1)
        for _ in range(500):
            expression = maker.expression(6)
            self.same(read_expression(expression_text(expression)), expression)

    def test_by_chance_changed_texts(self):
        maker = FreeMaker(2)
        for _ in range(3000):
            text = changed(maker.chance, expression_text(maker.expression(3)))
            if is_expression(text):
                self.assertEqual(expression_text(read_expression(text)), text)
            else:
                self.refused(read_expression, text, 1)


class TestNumbers(ReadingCase):
    def test_numbers(self):
        for number in (0, 1, 9, 10, 1000000000, 123456789012345678901234567890):
            self.same(read_expression(str(number)), ("num", number))
            if number:
                self.same(read_expression("-" + str(number)), ("num", -number))

    def test_no_numbers(self):
        for text in ("-0", "00", "01", "-01", "007", "-00", "-", "--1", "+1", "1-", "- 1", "1 ",
                     "1_000", "0-", "0b1"):
            self.refused(read_expression, text, 1)
            self.line_refused("x = " + text)
            self.refused(read_program, "global x: " + text + "..5\n", 1)
            self.refused(read_program, "global x: -5.." + text + "\n", 1)
            self.refused(read_program, "array x[" + text + "]: 0..5\n", 1)

    def test_four_thousand_digits(self):
        for sign in ("", "-"):
            text = sign + "9" * 4000
            self.assertEqual(read_expression(text), ("num", int(text)))
            self.assertEqual(read_function("def f()\n  x = " + text + "\nend\n"),
                             function_with(("set", "x", ("num", int(text)))))
            self.refused(read_expression, text + "9", 1)
            self.refused(read_expression, sign + "1" + "0" * 4000, 1)
            self.refused(read_expression, sign + "0" + "9" * 3999, 1)
            self.refused(read_program, "global x: " + text + "9..5\n", 1)
            self.line_refused("x = (a + " + text + "9)")


class TestStatements(ReadingCase):
    def test_each_statement(self):
        for statement, text in SIMPLE:
            self.line_read(text, statement)

    def test_bodies(self):
        for statement, lines in NESTED:
            text = "def f()\n" + "".join("  " + line + "\n" for line in lines) + "end\n"
            self.same(read_function(text), function_with(statement))

    def test_nesting_eight_deep(self):
        function = function_with(*nested_deep(8, (STOP,)), STOP)
        self.same(read_function(function_text(function)), function)

    def test_no_statements(self):
        for line in (
            "x", "x =", "x = ", "x= a", "x =a", "x  = a", "x =  a", "x == a", "= a", "x = a = b",
            "x = y = input", "x = a b", "x = input y", "x = new y", "x = inputs(", "x = (a)",
            "free", "free ", "free  x", "free x.f", "free x y", "free(x)", "free 3", "freex",
            "x = y.", "x = .f", "x = y.f.g", "x = y. f", "x = y .f", "x = 3.f", "y.f = ",
            "y.f = input", "y.f = new", "y.f = z.g", "y.f = a[0]", "y.f = g()", "y.f.g = 3",
            "x = a[]", "x = a[0", "x = a[0]]", "x = a[0] ", "x = a [0]", "x = a[ 0]", "x = [0]",
            "x = a[0][1]", "x = a[0].f", "x = a[b[0]]", "a[0] = ", "a[] = 1", "a[0]= 1",
            "a[0] =1", "a [0] = 1", "a[0] = input", "a[0] = b[0]", "a[0] = g()", "a[0]", "a[0",
            "g", "g(", "g)", "g()x", "g() ", "g ()", "g( )", "g(a,b)", "g(a , b)", "g(a,  b)",
            "g(a, )", "g(, a)", "g(,)", "g(a b)", "g(h())", "g(a + b)", "g((a)", "g((a + b)",
            "x = g(input)", "x = g(a, new)", "x.f = g()", "3 = g()", "3()", "x = 3()", "x = g()()",
            "return ", "return  a", "return input", "return new", "return g()", "return a b",
            "return x.f", "return a[0]", "returns", "break ", "break x", "breaks", "assert",
            "assert ", "assert a b", "assert g()", "assert  a", "if", "if ", "if a b", "if g()",
            "if  a", "if a then", "ifa", "while", "while ", "while a do", "while g()", "else a",
            "else ", "end ", "end end", "ende", "var", "var ", "x = null same y", "x := a", "pass",
            "x = a  ", "x = a;", "x, y = a", "(x) = a", "x = (a + b", "x = a + b", "not a",
            "X = a", "x_y = a", "record r", "def g()", "global x: flag", "array a[1]: 0..1",
        ):
            self.line_refused(line)

    def test_reserved_words_in_the_place_of_a_name(self):
        for word in RESERVED:
            for form in (
                "W = a", "W = input", "W = new", "free W", "W = y.f", "x = W.f", "x = y.W",
                "W.f = a", "y.W = a", "W = a[0]", "x = W[0]", "W[0] = a", "W(a)", "x = W(a)",
                "W = g(a)", "W()", "W = W",
            ):
                self.line_refused(form.replace("W", word))
            if word not in ("true", "false", "null"):
                for form in (
                    "g(W)", "x = g(a, W)", "y.f = W", "x = a[W]", "a[W] = b", "a[b] = W",
                    "return W", "if W", "while W", "assert W", "assert (not W)",
                ):
                    self.line_refused(form.replace("W", word))
            if word not in ("true", "false", "null", "input", "new"):
                self.line_refused("x = " + word)

    def test_reserved_words_in_declarations(self):
        for word in RESERVED:
            for form in (
                "record W\n", "array W[1]: 0..1\n", "global W: flag\n", "def W()\n",
                "def f(W: flag)\n", "def f(a: flag, W: flag)\n",
            ):
                self.refused(read_program, form.replace("W", word), 1)
            self.refused(read_program, "record r\n  " + word + ": flag\nend\n", 2)
            self.refused(read_program, "def f()\n  var " + word + ": flag\nend\n", 2)
            if word != "flag":
                self.refused(read_program, "global x: " + word + "\n", 1)
                self.refused(read_program, "def f(a: " + word + ")\n", 1)
                self.refused(read_program, "def f(): " + word + "\n", 1)
                self.refused(read_program, "record r\n  f: " + word + "\nend\n", 2)

    def test_each_character_of_a_name(self):
        for character in map(chr, range(32, 127)):
            for name, right in (
                (character, "a" <= character <= "z"),
                ("x" + character, "a" <= character <= "z" or "0" <= character <= "9"),
                ("x" + character + "y", "a" <= character <= "z" or "0" <= character <= "9"),
            ):
                if right:
                    self.line_read("free " + name, ("free", name))
                    self.same(read_expression("(" + name + " + b)"), ("+", ("name", name), B))
                else:
                    self.line_refused("free " + name)
                    if not character.isdigit():
                        self.refused(read_expression, "(" + name + " + b)", 1)

    def test_each_character_of_a_number(self):
        for character in map(chr, range(32, 127)):
            for text in ("5" + character, "5" + character + "5"):
                if character.isdigit():
                    self.same(read_expression(text), ("num", int(text)))
                else:
                    self.refused(read_expression, text, 1)
                    self.refused(read_program, "array a[" + text + "]: 0..1\n", 1)

    def test_names(self):
        for name in ("a", "z", "a0", "z9a", "resultx", "aend", "main", "num", "ref"):
            self.line_read(name + " = input", ("input", name))
        for name in ("", "0a", "9", "A", "aB", "a_b", "a-b", "_a", "a.b", "a b", "a!", "a'"):
            self.line_refused(name + " = input")


class TestFunctions(ReadingCase):
    def test_empty_text(self):
        self.refused(read_function, "", 1)

    def test_no_newline_alone(self):
        self.refused(read_function, "\n", 1)
        self.refused(read_function, " ", 1)

    def test_heads(self):
        flag = ("flag",)
        for text, wanted in (
            ("def f()\nend\n", ("f", (), None, (), ())),
            ("def f(): flag\nend\n", ("f", (), flag, (), ())),
            ("def f(): -3..9\nend\n", ("f", (), ("num", -3, 9), (), ())),
            ("def f(): r\nend\n", ("f", (), ("ref", "r"), (), ())),
            ("def f(a: flag)\nend\n", ("f", (("a", flag),), None, (), ())),
            ("def f(a: 9..0, a: r): r\nend\n",
             ("f", (("a", ("num", 9, 0)), ("a", ("ref", "r"))), ("ref", "r"), (), ())),
            ("def f()\n  var x: flag\n  var x: 0..0\nend\n",
             ("f", (), None, (("x", flag), ("x", ("num", 0, 0))), ())),
        ):
            self.same(read_function(text), wanted)

    def test_wrong_heads(self):
        for head in (
            "def", "def ", "def f", "def f(", "def f)", "def f() ", "def f():", "def f(): ",
            "def f()flag", "def f()r", "def f()0..1", "def f():flag", "def f() : flag", "def f():  flag", "def  f()", " def f()", "def f ()",
            "def f( )", "def f(a)", "def f(a:)", "def f(a: )", "def f(a:flag)", "def f(a : flag)",
            "def f(a: flag,b: flag)", "def f(a: flag , b: flag)", "def f(a: flag,  b: flag)",
            "def f(a: flag, )", "def f(, a: flag)", "def f(a: flag b: flag)", "def f(a: 0...9)",
            "def f(a: 0.9)", "def f(a: 0..)", "def f(a: ..9)", "def f(a: 0 .. 9)", "def f(a: 0)",
            "def f(a: 0..9..9)", "def f(): flag flag", "def f(): flag:", "def f()()", "def 3()",
            "def f(3: flag)", "deff()", "define f()", "f()", "record r", "end", "else", "var x: flag",
            "def f(a: flag))", "def f((a: flag)", "def f(): (flag)", "Def f()", "x = a",
        ):
            self.refused(read_function, head + "\nend\n", 1)

    def test_locals(self):
        for line in (
            "  var x", "  var x:", "  var x: ", "  var x:flag", "  var x : flag", "  var  x: flag",
            " var x: flag", "   var x: flag", "var x: flag", "  var x: flag ", "  var x: 0..",
            "  var 3: flag", "  Var x: flag", "  var x: flag, y: flag", "  var: flag", "  varx: flag",
        ):
            self.refused(read_function, "def f()\n" + line + "\nend\n", 2)

    def test_a_local_behind_a_statement(self):
        self.refused(read_function, "def f()\n  return\n  var x: flag\nend\n", 3)
        self.refused(read_function, "def f()\n  if a\n  end\n  var x: flag\nend\n", 4)
        self.refused(read_function, "def f()\n  if a\n    var x: flag\n  end\nend\n", 3)
        self.refused(read_function, "def f()\n  while a\n  var x: flag\n", 3)

    def test_a_line_behind_the_last_end(self):
        for behind in ("\n", "end\n", "def g()\nend\n", "  return\n", "global x: flag\n", "x", " "):
            self.refused(read_function, "def f()\n  return\nend\n" + behind, 4)

    def test_lines_of_programs(self):
        self.refused(read_function, "record r\nend\n", 1)
        self.refused(read_function, "global x: flag\ndef f()\nend\n", 1)

    def test_missing_end(self):
        self.refused(read_function, "def f()\n", 2)
        self.refused(read_function, "def f()\n  var x: flag\n", 3)
        self.refused(read_function, "def f()\n  if a\n", 3)
        self.refused(read_function, "def f()\n  if a\n  end\n", 4)
        self.refused(read_function, "def f()\n  if a\n  else\n", 4)
        self.refused(read_function, "def f()\n  while a\n    break\n", 4)

    def test_last_line_without_a_newline(self):
        self.refused(read_function, "def f()\nend", 2)
        self.refused(read_function, "def f()", 1)
        self.refused(read_function, "def f()\n  return", 2)
        self.refused(read_function, "def f()\n  nonsense", 2)
        self.refused(read_function, "def f()\n  nonsense\nend", 2)
        self.refused(read_function, "def f()\n  if a\n  end", 3)

    def test_indentation(self):
        for text, line in (
            ("def f()\nreturn\nend\n", 2), ("def f()\n return\nend\n", 2),
            ("def f()\n   return\nend\n", 2), ("def f()\n    return\nend\n", 2),
            ("def f()\n\treturn\nend\n", 2), ("def f()\n  return\n  end\n", 3),
            ("def f()\n  return\n end\n", 3), ("def f()\n  if a\n  return\n  end\nend\n", 3),
            ("def f()\n  if a\n   return\n  end\nend\n", 3),
            ("def f()\n  if a\n      return\n  end\nend\n", 3),
            ("def f()\n  if a\n    return\nend\nend\n", 4),
            ("def f()\n  if a\n    return\n    end\nend\n", 4),
            ("def f()\n  if a\nelse\n", 3), ("def f()\n  if a\n    else\n", 3),
            ("def f()\n  if a\n  else\n  return\n  end\nend\n", 4),
            ("def f()\n  while a\n    if b\n  end\n", 4),
            ("def f()\n  while a\n    if b\n    end\n    end\n", 5),
            ("  def f()\nend\n", 1),
        ):
            self.refused(read_function, text, line)

    def test_else(self):
        for text, line in (
            ("def f()\nelse\n", 2), ("def f()\n  else\n", 2),
            ("def f()\n  while a\n  else\n", 3),
            ("def f()\n  if a\n  else\n  end\nend\n", 4),
            ("def f()\n  if a\n    return\n  else\n  end\nend\n", 5),
            ("def f()\n  if a\n  else\n  else\n", 4),
            ("def f()\n  if a\n  else\n    return\n  else\n", 5),
            ("def f()\n  if a\n  end\n  else\n", 4),
        ):
            self.refused(read_function, text, line)

    def test_form_alone_is_looked_at(self):
        text = "def f(a: 5..1, a: f): nothing\n  var a: 0..0\n  break\n  return x\n  q = f(1, 2)\nend\n"
        read = read_function(text)
        self.assertEqual(function_text(read), text)


class TestPrograms(ReadingCase):
    def test_program_of_the_document(self):
        self.same(read_program(DOOR_TEXT), DOOR)

    def test_empty_text(self):
        self.same(read_program(""), EMPTY)

    def test_each_section(self):
        self.same(read_program("record r\nend\n"), ((("r", ()),), (), (), ()))
        self.same(read_program("record r\n  f: flag\n  f: r\n  g: 3..-3\nend\n"),
                  ((("r", (("f", ("flag",)), ("f", ("ref", "r")), ("g", ("num", 3, -3)))),),
                   (), (), ()))
        self.same(read_program("array a[-5]: 9..0\n"), ((), (("a", -5, 9, 0),), (), ()))
        self.same(read_program("array a[0]: -1..-1\n"), ((), (("a", 0, -1, -1),), (), ()))
        self.same(read_program("global x: y\n"), ((), (), (("x", ("ref", "y")),), ()))
        self.same(read_program("def f()\nend\n"), ((), (), (), (("f", (), None, (), ()),)))

    def test_form_alone_is_looked_at(self):
        text = (
            "record r\n  f: nowhere\nend\nrecord r\nend\narray r[-1]: 5..-5\nglobal r: r\n"
            "global r: 9..8\ndef r(r: flag): what\n  var r: flag\n  break\n  a.b = null\nend\n"
        )
        self.assertEqual(program_text(read_program(text)), text)

    def test_sections_in_the_wrong_order(self):
        parts = ["record r\nend\n", "array a[1]: 0..1\n", "global x: flag\n", "def f()\nend\n"]
        for at, part in enumerate(parts):
            for earlier in parts[:at]:
                self.refused(read_program, part + earlier, part.count("\n") + 1)
            self.assertEqual(program_text(read_program(part + part)), part + part)
            for later in parts[at:]:
                self.assertEqual(program_text(read_program(part + later)), part + later)

    def test_empty_lines(self):
        lines = DOOR_TEXT.split("\n")[:-1]
        for at in range(len(lines) + 1):
            text = "\n".join([*lines[:at], "", *lines[at:]]) + "\n"
            self.refused(read_program, text, at + 1)

    def test_newline_at_the_beginning_and_alone(self):
        self.refused(read_program, "\n", 1)
        self.refused(read_program, "\n\n", 1)
        self.refused(read_program, "\n" + DOOR_TEXT, 1)
        self.refused(read_program, " ", 1)
        self.refused(read_program, " \n", 1)

    def test_cut_off_behind_each_line(self):
        lines = DOOR_TEXT.split("\n")[:-1]
        complete = {0, 3, 4, 15, 22}
        for at in range(len(lines) + 1):
            text = "".join(line + "\n" for line in lines[:at])
            if at in complete:
                self.assertEqual(program_text(read_program(text)), text)
            else:
                self.refused(read_program, text, at + 1)

    def test_cut_off_in_each_line(self):
        for at in range(len(DOOR_TEXT)):
            text = DOOR_TEXT[:at]
            if text and not text.endswith("\n"):
                self.refused(read_program, text, text.count("\n") + 1)

    def test_last_line_without_a_newline_goes_behind_earlier_lines(self):
        self.refused(read_program, "record r\n  f flag\nend", 2)
        self.refused(read_program, "record r\n  f: flag\nend", 3)
        self.refused(read_program, "record r\n  f: flag", 2)
        self.refused(read_program, "record r", 1)
        self.refused(read_program, "x", 1)

    def test_newlines_that_are_missing(self):
        lines = DOOR_TEXT.split("\n")[:-1]
        for at in range(len(lines) - 1):
            joined = [*lines[:at], lines[at] + lines[at + 1], *lines[at + 2:]]
            # In two lines this makes a longer name, `flagend` and `wasend`.
            line = at + 2 if at in (1, 13) else at + 1
            self.refused(read_program, "\n".join(joined) + "\n", line)

    def test_spaces_at_the_ends_of_lines(self):
        lines = DOOR_TEXT.split("\n")[:-1]
        for at, line in enumerate(lines):
            for other in (line + " ", " " + line, "  " + line, line[1:], line + "\r", line + "\t"):
                text = "\n".join([*lines[:at], other, *lines[at + 1:]]) + "\n"
                self.refused(read_program, text, at + 1)

    def test_spaces_doubled_or_missing(self):
        for at, character in enumerate(DOOR_TEXT):
            if character == " ":
                line = DOOR_TEXT[:at].count("\n") + 1
                self.refused(read_program, DOOR_TEXT[:at] + " " + DOOR_TEXT[at:], line)
                self.refused(read_program, DOOR_TEXT[:at] + DOOR_TEXT[at + 1:], line)

    def test_wrong_lines_of_records(self):
        for line in ("f: flag", " f: flag", "   f: flag", "  f:flag", "  f : flag", "  f", "  f:",
                     "  f: ", "  f: flag ", "  3: flag", "  var f: flag", "  end", "end ", " end",
                     "record q", "global x: flag", "else", "def f()", "  f: flag, g: flag"):
            self.refused(read_program, "record r\n" + line + "\nend\n", 2)

    def test_wrong_lines_at_the_top(self):
        for line in (
            "record", "record ", "record  r", "record r ", " record r", "record 3", "record r:",
            "array", "array a", "array a[", "array a[]: 0..1", "array a[1]", "array a[1]:",
            "array a[1]:0..1", "array a[1] : 0..1", "array a[1]: ", "array a[1]: flag",
            "array a[1]: r", "array a[1]: 0..1 ", "array a [1]: 0..1", "array a[ 1]: 0..1",
            "array a[1 ]: 0..1", "array a[x]: 0..1", "array  a[1]: 0..1", "array 3[1]: 0..1",
            "array a[1]: 0..1..2", "array a[1]]: 0..1", "array a[[1]: 0..1", "array a[01]: 0..1",
            "array a[-0]: 0..1", "array a[1]: 0.. 1", "array a(1): 0..1", "array a: 0..1",
            "global", "global ", "global x", "global x:", "global x: ", "global x:flag",
            "global  x: flag", "global x : flag", "global x: flag ", "global 3: flag",
            "global x: 0-9", "global x: flag, y: flag", "globals x: flag", "end", "else", "return",
            "var x: flag", "x: flag", "main()", "def", "class f()",
        ):
            self.refused(read_program, line + "\n", 1)
            self.refused(read_program, "record first\nend\n" + line + "\n", 3)

    def test_other_characters(self):
        for character in "\t\r\x0b\x0c\x1c\x85\u2028\xb2\u0661\xe4":
            self.refused(read_program, "global x" + character + ": flag\n", 1)
            self.refused(read_program, "global x: 0..1" + character + "\n", 1)
            self.refused(read_program, "record r" + character + "end\n", 1)


def changed(chance, text):
    """The text with a small change."""
    at = chance.randrange(len(text) + 1)
    to = min(len(text), at + chance.randrange(4))
    piece = chance.choice([
        "", " ", "  ", "\n", "(", ")", "a", "0", "-", "not ", " + ", "end\n", "else\n", "  else\n",
        "  end\n", "    ", ".", "..", "[", "]", ", ", ": ", "=", " = ", "true", "input", "E", "@",
    ])
    if chance.random() < 0.3:
        lines = text.split("\n")
        one = chance.randrange(len(lines))
        other = chance.randrange(len(lines))
        lines[one], lines[other] = lines[other], lines[one]
        return "\n".join(lines)
    return text[:at] + piece + text[at if chance.random() < 0.5 else to:]


class TestByChance(ReadingCase):
    def test_there_and_back(self):
        maker = FreeMaker(3)
        for _ in range(300):
            program = maker.program()
            self.same(read_program(program_text(program)), program)
            function = maker.function()
            self.same(read_function(function_text(function)), function)

    def test_changed_texts(self):
        maker = FreeMaker(4)
        refused = 0
        for _ in range(2500):
            text = changed(maker.chance, program_text(maker.program()))
            line = refused_line(text)
            if line is None:
                self.assertEqual(program_text(read_program(text)), text)
            else:
                refused += 1
                self.refused(read_program, text, line)
        self.assertTrue(500 < refused < 2400)

    def test_changed_functions(self):
        maker = FreeMaker(5)
        for _ in range(2500):
            text = changed(maker.chance, function_text(maker.function()))
            if maker.chance.random() < 0.1:
                text += function_text(maker.function())
            line = refused_line(text, functions_only=True)
            if line is None:
                self.assertEqual(function_text(read_function(text)), text)
            else:
                self.refused(read_function, text, line)

    def test_lines_cut_off_and_mixed(self):
        chance = random.Random(6)
        lines = DOOR_TEXT.split("\n")[:-1]
        lines += ["  else", "    end", "  if a", "    if b", "      break", "    while b", "    else"]
        for _ in range(4000):
            text = "def f()\n" + "".join(chance.choice(lines) + "\n" for _ in range(6))
            line = refused_line(text)
            if line is None:
                self.assertEqual(program_text(read_program(text)), text)
            else:
                self.refused(read_program, text, line)

    def test_every_short_row_of_lines(self):
        pieces = ["if a", "while a", "else", "end", "break", "var x: flag"]
        lines = [" " * (2 * depth) + piece for piece in pieces for depth in range(4)]
        rows = [["def f()"]]
        for _ in range(5):
            longer = []
            for row in rows:
                for line in lines:
                    text = "\n".join([*row, line]) + "\n"
                    wanted = refused_line(text, functions_only=True)
                    found = None
                    try:
                        read_function(text)
                    except BadText as error:
                        found = error.line
                    self.assertEqual(found, wanted, text)
                    if found == len(row) + 2:
                        longer.append([*row, line])
            rows = longer


if __name__ == "__main__":
    unittest.main()
