"""Points 1, 2, 3 and 21: what all functions keep."""

import unittest

from neverhappens.graphs import heads, nodes
from neverhappens.kinds import is_discrete, is_large, is_small, kind_values, start_value
from neverhappens.layouts import Layout
from neverhappens.names import check_program
from neverhappens.plain import Machine, run
from neverhappens.printing import expression_text, function_text, kind_text, program_text
from neverhappens.reading import read_expression, read_function, read_program
from neverhappens.values import evaluate
from neverhappens.walking import Walker, walk
from tests.making import RightMaker
from tests.samples import A, DOOR, DOOR_TEXT, EXPRESSIONS

# Beyond each of the limits: names, kinds, arrays, functions, parameters, statements, nesting.
LONG = "a" * 40


def great_program():
    """A program beyond the limits."""
    records = tuple(
        ("r" + str(at), tuple((LONG + str(field), ("num", 0, 7)) for field in range(6)))
        for at in range(6)
    )
    arrays = tuple(("a" + str(at), 100, -(10 ** 12), 10 ** 12) for at in range(6))
    shared = tuple(("g" + str(at), ("num", -(10 ** 12), 10 ** 12)) for at in range(20))
    sum_of_all = ("num", 10 ** 11)
    for at in range(20):
        sum_of_all = ("+", ("name", "g" + str(at)), sum_of_all)
    params = tuple(("p" + str(at), ("num", 0, 10 ** 12)) for at in range(6))
    helpers = tuple(("f" + str(at), params, shared[3][1], (), ()) for at in range(12))
    body = (("set", "g1", sum_of_all),)
    for _ in range(15):
        body = (("while", ("<", ("name", "g1"), ("num", 10 ** 11)), body),)
    arguments = tuple(("num", 10 ** 12) for _ in range(6))
    body += tuple(("set", "g2", ("num", at)) for at in range(100))
    body += (("put", "a0", ("num", 99), ("name", "g2")), ("call", "g3", "f7", arguments))
    return (records, arrays, shared, (*helpers, ("main", (), None, (), body)))


def is_plain_value(value):
    """True for strings, integers, True, False, None and tuples of these."""
    if isinstance(value, tuple):
        return all(map(is_plain_value, value))
    return value is None or type(value) in (str, int, bool)


class TestArguments(unittest.TestCase):
    def test_lists_and_dicts_are_not_changed(self):
        inputs = [5, 6, 7]
        for made in (Machine, Walker):
            going = made(DOOR, inputs)
            for _ in range(10):
                going.visit()
        run(DOOR, inputs, 10)
        walk(DOOR, inputs, 10)
        self.assertEqual(inputs, [5, 6, 7])
        values = {"a": 3, "b": 4, "c": True}
        for expression in (("+", A, ("name", "b")), ("not", ("name", "c"))):
            evaluate(expression, values)
        self.assertEqual(values, {"a": 3, "b": 4, "c": True})
        self.assertIs(values["c"], True)

    def test_values_that_are_changed_afterwards(self):
        values = {"a": 3}
        self.assertEqual(evaluate(A, values), 3)
        values["a"] = 4
        self.assertEqual(evaluate(A, values), 4)


class TestPlainValues(unittest.TestCase):
    def test_results(self):
        found = [read_program(DOOR_TEXT), read_program("")]
        found += [read_function(function_text(function)) for function in DOOR[3]]
        found += [read_expression(text) for _, text in EXPRESSIONS]
        found += [kind_values(("num", 2, 5)), kind_values(("flag",))]
        found += [start_value(("num", 2, 5)), start_value(("flag",)), start_value(("ref", "r"))]
        for seed in range(40):
            program = RightMaker(seed).program()
            for function in program[3]:
                found += [nodes(function), heads(function)]
                layout = Layout(program, function[0])
                found += [value for name, value in vars(layout).items() if name != "kinds"]
                found += list(layout.kinds.items())
            for made in (Machine, Walker):
                going = made(program, [4, 5, 6])
                for _ in range(30):
                    found += [going.outcome(), going.state(), going.visits, going.reads]
                    going.visit()
            found += [run(program, [], 30), walk(program, [], 30)]
        for value in found:
            self.assertTrue(is_plain_value(value), value)

    def test_tuples_in_each_state(self):
        for made in (Machine, Walker):
            state = made(DOOR, []).state()
            self.assertEqual([type(part) for part in state], [tuple] * 4)


class TestLimits(unittest.TestCase):
    def test_no_function_checks_them(self):
        program = great_program()
        self.assertIsNone(check_program(program))
        text = program_text(program)
        self.assertEqual(read_program(text), program)
        main = program[3][-1]
        self.assertEqual(len(nodes(main)), 118)
        self.assertEqual(heads(main), tuple(range(15)))
        self.assertEqual(Layout(program, "main").exit, 118)
        self.assertEqual(len(Layout(program, "f7").large), 26)
        for go in (run, walk):
            self.assertEqual(go(program, [0] * 5000, 10 ** 6), (("end",), 133, 0))
        for kind in (("num", -10 ** 30, 10 ** 30), ("num", 10 ** 30, 10 ** 30 + 7)):
            self.assertEqual(kind_text(kind), str(kind[1]) + ".." + str(kind[2]))
            self.assertIs(is_large(kind), kind[1] < 0)
            self.assertIs(is_small(kind), kind[1] > 0)
            self.assertIs(is_discrete(kind), kind[1] > 0)
        self.assertEqual(kind_values(("num", 10 ** 30, 10 ** 30 + 1)), (10 ** 30, 10 ** 30 + 1))

    def test_expressions_that_are_deep(self):
        expression = A
        for _ in range(100):
            expression = ("+", expression, ("*", ("num", 1), A))
        text = expression_text(expression)
        self.assertEqual(read_expression(text), expression)
        self.assertEqual(evaluate(expression, {"a": 2}), 202)

    def test_many_inputs_and_visits(self):
        program = read_program("global a: 0..9\ndef main()\n  while true\n    a = input\n  end\nend\n")
        for go in (run, walk):
            self.assertEqual(go(program, [3] * 6000, 20000), (("going", "main", 0), 20000, 10000))


class TestTexts(unittest.TestCase):
    def test_characters(self):
        allowed = set(map(chr, range(32, 127))) - {chr(37)} | {"\n"}
        for seed in range(40):
            self.assertLessEqual(set(program_text(RightMaker(seed).program())), allowed)


if __name__ == "__main__":
    unittest.main()
