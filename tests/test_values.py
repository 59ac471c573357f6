"""Point 23."""

import unittest

from neverhappens.reading import read_expression
from neverhappens.values import evaluate

HUGE = 10 ** 300 + 7


class TestValues(unittest.TestCase):
    def check(self, text, wanted, **values):
        """Compares with the kinds of values: False is not 0, True is not 1."""
        before = dict(values)
        self.assertEqual(repr(evaluate(read_expression(text), values)), repr(wanted), text)
        self.assertEqual(values, before)

    def test_constants(self):
        self.check("5", 5)
        self.check("-5", -5)
        self.check("0", 0)
        self.check("true", True)
        self.check("false", False)
        self.check("null", None)

    def test_names(self):
        self.check("x", 7, x=7, y=8)
        self.check("x", True, x=True)
        self.check("x", None, x=None)
        self.check("x", 0, x=0)

    def test_sums_differences_products(self):
        self.check("(x + y)", 5, x=7, y=-2)
        self.check("(x - y)", 9, x=7, y=-2)
        self.check("(y - x)", -9, x=7, y=-2)
        self.check("(x * y)", -14, x=7, y=-2)
        self.check("(x * 0)", 0, x=7)

    def test_numbers_without_a_bound(self):
        self.check("(x * x)", HUGE * HUGE, x=HUGE)
        self.check("(x + 1)", HUGE + 1, x=HUGE)
        self.check("((x * x) - (x * x))", 0, x=HUGE)
        self.check("((x * x) < ((x * x) + 1))", True, x=-HUGE)
        self.check("((x + 1) == x)", False, x=HUGE)

    def test_comparisons(self):
        for x, y in ((1, 2), (2, 2), (3, 2), (-1, 0), (0, -1), (HUGE, HUGE + 1)):
            self.check("(x < y)", x < y, x=x, y=y)
            self.check("(x <= y)", x <= y, x=x, y=y)
            self.check("(x == y)", x == y, x=x, y=y)
            self.check("(x != y)", x != y, x=x, y=y)

    def test_same(self):
        self.check("(x same y)", True, x=None, y=None)
        self.check("(x same null)", True, x=None)
        self.check("(null same null)", True)
        self.check("(x same null)", False, x=0)
        self.check("(null same x)", False, x=0)
        self.check("(x same y)", True, x=0, y=0)
        self.check("(x same y)", True, x=2000, y=1000 + 1000)
        self.check("(x same y)", False, x=0, y=1)

    def test_and_or_not(self):
        for x in (False, True):
            for y in (False, True):
                self.check("(x and y)", x and y, x=x, y=y)
                self.check("(x or y)", x or y, x=x, y=y)
            self.check("(not x)", not x, x=x)

    def test_within_one_another(self):
        self.check("((not (x < (y * 2))) or ((z same null) and (x == 3)))", True, x=3, y=2, z=None)
        self.check("((not (x < (y * 2))) or ((z same null) and (x == 3)))", False, x=3, y=2, z=0)
        self.check("((((((x + 1) + 1) + 1) + 1) + 1) + 1)", 6, x=0)

    def test_values_that_are_not_used(self):
        self.check("(1 + 2)", 3, x=None)

    def test_wrong_inputs(self):
        with self.assertRaises(KeyError):
            evaluate(("name", "x"), {})


if __name__ == "__main__":
    unittest.main()
