"""Points 10 and 30."""

import unittest

from neverhappens.graphs import heads, nodes
from neverhappens.reading import read_function
from tests.making import RightMaker
from tests.reference import size
from tests.samples import A, B, BREAK, DOOR, SIMPLE, STOP, function_with

INPUT = ("input", "a")
CALL = ("call", None, "g", ())
GO = ("go",)


def tested(expression):
    return ("test", expression)


class TestNodes(unittest.TestCase):
    def check(self, body, *wanted):
        self.assertEqual(repr(nodes(function_with(*body))), repr(wanted))

    def test_without_statements(self):
        self.check(())
        self.assertEqual(nodes(function_with()), ())

    def test_each_statement_alone(self):
        for statement, _ in SIMPLE:
            if statement != BREAK:
                self.check((statement,), (statement, 1, None))

    def test_statements_one_after_the_other(self):
        self.check((INPUT, CALL, INPUT), (INPUT, 1, None), (CALL, 2, None), (INPUT, 3, None))

    def test_return_goes_to_the_exit(self):
        self.check((STOP, INPUT, ("return", A), INPUT),
                   (STOP, 4, None), (INPUT, 2, None), (("return", A), 4, None), (INPUT, 4, None))

    def test_if(self):
        self.check((("if", A, (INPUT, CALL), (CALL,)), INPUT),
                   (tested(A), 1, 3), (INPUT, 2, None), (CALL, 4, None), (CALL, 4, None),
                   (INPUT, 5, None))

    def test_empty_bodies_of_an_if(self):
        self.check((("if", A, (), ()), INPUT), (tested(A), 1, 1), (INPUT, 2, None))
        self.check((("if", A, (INPUT,), ()), CALL),
                   (tested(A), 1, 2), (INPUT, 2, None), (CALL, 3, None))
        self.check((("if", A, (), (INPUT,)), CALL),
                   (tested(A), 2, 1), (INPUT, 2, None), (CALL, 3, None))
        self.check((("if", A, (), ()),), (tested(A), 1, 1))

    def test_while(self):
        self.check((("while", A, (INPUT, CALL)), INPUT),
                   (tested(A), 1, 3), (INPUT, 2, None), (CALL, 0, None), (INPUT, 4, None))

    def test_empty_body_of_a_while(self):
        self.check((("while", A, ()), INPUT), (tested(A), 0, 1), (INPUT, 2, None))
        self.check((INPUT, ("while", A, ())), (INPUT, 1, None), (tested(A), 1, 2))

    def test_if_at_the_end_of_a_while(self):
        self.check((("while", A, (("if", B, (), (INPUT,)),)), CALL),
                   (tested(A), 1, 3), (tested(B), 0, 2), (INPUT, 0, None), (CALL, 4, None))

    def test_break(self):
        self.check((("while", A, (BREAK, INPUT)), CALL),
                   (tested(A), 1, 3), (GO, 3, None), (INPUT, 0, None), (CALL, 4, None))

    def test_break_in_an_if_in_a_while(self):
        self.check((("while", A, (("if", B, (BREAK,), (BREAK,)), INPUT)),),
                   (tested(A), 1, 5), (tested(B), 2, 3), (GO, 5, None), (GO, 5, None),
                   (INPUT, 0, None))

    def test_break_leaves_the_innermost_while(self):
        self.check((("while", A, (("while", B, (BREAK,)), BREAK, INPUT)), CALL),
                   (tested(A), 1, 5), (tested(B), 2, 3), (GO, 3, None), (GO, 5, None),
                   (INPUT, 0, None), (CALL, 6, None))
        self.check((("while", A, (("while", B, (BREAK,)),)),),
                   (tested(A), 1, 3), (tested(B), 2, 0), (GO, 0, None))

    def test_return_in_a_while(self):
        self.check((("while", A, (STOP, INPUT)), CALL),
                   (tested(A), 1, 3), (STOP, 4, None), (INPUT, 0, None), (CALL, 4, None))

    def test_break_behind_an_inner_while_in_an_if(self):
        body = (("while", A, (("if", B, (("while", A, ()), BREAK), ()), INPUT)),)
        self.check(body, (tested(A), 1, 5), (tested(B), 2, 4), (tested(A), 2, 3), (GO, 5, None),
                   (INPUT, 0, None))

    def test_nesting_eight_deep(self):
        body = (INPUT,)
        for _ in range(8):
            body = (("while", A, body),)
        wanted = [(tested(A), 1, 9)]
        wanted += [(tested(A), place + 1, place - 1) for place in range(1, 8)]
        self.check(body, *wanted, (INPUT, 7, None))

    def test_ifs_eight_deep(self):
        body = (INPUT,)
        for _ in range(8):
            body = (("if", A, (), body),)
        wanted = [(tested(A), 9, place + 1) for place in range(8)]
        self.check(body, *wanted, (INPUT, 9, None))

    def test_program_of_the_document(self):
        shut, main = DOOR[3]
        test = ("and", ("name", "was"), ("<", ("name", "times"), ("num", 3)))
        self.assertEqual(nodes(shut), (
            (("load", "was", "d", "open"), 1, None),
            (("test", test), 2, 4),
            (("store", "d", "open", ("flag", False)), 3, None),
            (("free", "d"), 5, None),
            (("set", "last", ("name", "d")), 5, None),
            (("return", ("name", "was")), 6, None),
        ))
        self.assertEqual(nodes(main), (
            (("new", "d"), 1, None),
            (("test", ("flag", True)), 2, 3),
            (("call", None, "shut", (("name", "d"), ("num", 2))), 1, None),
        ))

    def test_one_node_for_each_statement(self):
        for seed in range(50):
            for function in RightMaker(seed).program()[3]:
                found = nodes(function)
                self.assertEqual(len(found), size(function[4]))
                for _, after, other in found:
                    self.assertIn(after, range(len(found) + 1))
                    self.assertIn(other, [None, *range(len(found) + 1)])


class TestHeads(unittest.TestCase):
    def test_none(self):
        self.assertEqual(heads(function_with()), ())
        self.assertEqual(heads(function_with(INPUT, ("if", A, (STOP,), ()))), ())

    def test_places_in_ascending_order(self):
        function = read_function(
            "def f()\n  x = input\n  while a\n    if b\n      while c\n      end\n    else\n"
            "      x = input\n      while d\n        break\n      end\n    end\n  end\n"
            "  while e\n  end\nend\n"
        )
        self.assertEqual(heads(function), (1, 3, 5, 7))

    def test_program_of_the_document(self):
        self.assertEqual(heads(DOOR[3][0]), ())
        self.assertEqual(heads(DOOR[3][1]), (1,))


if __name__ == "__main__":
    unittest.main()
