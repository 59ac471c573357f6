"""Points 36 to 39."""

import random
import unittest

from neverhappens.forms import form_of, range_of_form
from neverhappens.reading import read_expression
from neverhappens.values import evaluate
from neverhappens.zones import bound, close, range_box
from tests.slow import FAR, NO_COLUMNS, chance_box, points_of

KNOWN = {"k": 3, "m": -4, "zero": 0, "f": True, "r": None}
NAMES = ("x", "y")
# x lies in 2..5, y in -3..4, and there is one more column.
BOX = range_box(((2, 5), (-3, 4), (0, 100)))


def chance_number(chance, depth, names):
    """A number expression with these names."""
    if depth == 0 or chance.random() < 0.2:
        if chance.random() < 0.75:
            return ("name", chance.choice(names))
        return ("num", chance.randrange(-3, 4))
    return (chance.choice("+-*"), chance_number(chance, depth - 1, names),
            chance_number(chance, depth - 1, names))


def varies(expression):
    """True if x or y occurs in an expression."""
    if expression[0] == "name":
        return expression[1] in NAMES
    return expression[0] != "num" and (varies(expression[1]) or varies(expression[2]))


def is_linear(expression):
    """True if no product of the expression has two operands that vary."""
    if expression[0] in ("num", "name"):
        return True
    if expression[0] == "*" and varies(expression[1]) and varies(expression[2]):
        return False
    return is_linear(expression[1]) and is_linear(expression[2])


def stands_for(form, point):
    """The least and the greatest number for which the form stands in a point."""
    total = sum(each * value for each, value in zip(form[0], point))
    return total + form[1], total + form[2]


class TestFormOf(unittest.TestCase):
    def check(self, text, coefficients, low, high, box=BOX):
        found = form_of(read_expression(text), KNOWN, NAMES, box)
        self.assertEqual(repr(found), repr((coefficients, low, high)), text)

    def test_atoms(self):
        self.check("7", (0, 0, 0), 7, 7)
        self.check("-7", (0, 0, 0), -7, -7)
        self.check("k", (0, 0, 0), 3, 3)
        self.check("m", (0, 0, 0), -4, -4)
        self.check("x", (1, 0, 0), 0, 0)
        self.check("y", (0, 1, 0), 0, 0)

    def test_boxes_of_other_sizes(self):
        self.check("y", (0, 1), 0, 0, range_box(((0, 9), (0, 9))))
        self.check("y", (0, 1, 0, 0, 0), 0, 0, range_box(((0, 9),) * 5))
        self.assertEqual(form_of(("num", 5), {}, (), NO_COLUMNS), ((), 5, 5))
        self.assertEqual(form_of(("num", 5), {}, (), BOX), ((0, 0, 0), 5, 5))
        self.assertEqual(form_of(("name", "k"), KNOWN, (), NO_COLUMNS), ((), 3, 3))

    def test_sums(self):
        self.check("(x + 7)", (1, 0, 0), 7, 7)
        self.check("(x + y)", (1, 1, 0), 0, 0)
        self.check("(k + m)", (0, 0, 0), -1, -1)
        self.check("((x + k) + (y + x))", (2, 1, 0), 3, 3)

    def test_differences(self):
        self.check("(x - 7)", (1, 0, 0), -7, -7)
        self.check("(7 - x)", (-1, 0, 0), 7, 7)
        self.check("(x - y)", (1, -1, 0), 0, 0)
        self.check("(x - x)", (0, 0, 0), 0, 0)
        self.check("(k - (y - (m - x)))", (-1, -1, 0), -1, -1)
        # The ends of a range that is subtracted change places.
        self.check("(1 - (x * y))", (0, 0, 0), -19, 16)

    def test_products_without_names(self):
        self.check("(k * m)", (0, 0, 0), -12, -12)
        self.check("((k + 1) * (m - 2))", (0, 0, 0), -24, -24)

    def test_products_with_one_operand_that_varies(self):
        self.check("(k * x)", (3, 0, 0), 0, 0)
        self.check("(x * k)", (3, 0, 0), 0, 0)
        self.check("((k - 1) * (x + 5))", (2, 0, 0), 10, 10)
        self.check("((x - y) * (k + k))", (6, -6, 0), 0, 0)
        self.check("(zero * x)", (0, 0, 0), 0, 0)
        self.check("(x * zero)", (0, 0, 0), 0, 0)

    def test_negative_multipliers(self):
        self.check("(m * (x + 1))", (-4, 0, 0), -4, -4)
        self.check("((x + 1) * m)", (-4, 0, 0), -4, -4)
        # x * y lies in -15..20.
        self.check("(-2 * (x * y))", (0, 0, 0), -40, 30)
        self.check("((x * y) * -2)", (0, 0, 0), -40, 30)
        self.check("(2 * (x * y))", (0, 0, 0), -30, 40)

    def test_products_with_two_operands_that_vary(self):
        self.check("(x * y)", (0, 0, 0), -15, 20)
        self.check("(y * x)", (0, 0, 0), -15, 20)
        self.check("(x * x)", (0, 0, 0), 4, 25)
        self.check("(y * y)", (0, 0, 0), -12, 16)
        self.check("((0 - x) * y)", (0, 0, 0), -20, 15)
        self.check("((x + 1) * (y - 1))", (0, 0, 0), -24, 18)
        self.check("((x * y) + x)", (1, 0, 0), -15, 20)

    def test_products_with_names_whose_coefficient_is_0(self):
        # x occurs in the left operand, though its form stands for 0 alone.
        self.check("((x - x) * y)", (0, 0, 0), 0, 0)
        self.check("(((x - x) + 2) * y)", (0, 0, 0), -6, 8)
        self.check("(y * ((x - x) + 2))", (0, 0, 0), -6, 8)
        self.check("((2 + (zero * x)) * y)", (0, 0, 0), -6, 8)

    def test_products_of_columns_that_are_tied(self):
        # The range of the left operand is that of a difference: 1..2.
        box = bound(bound(range_box(((0, 9), (0, 9))), 1, 2, 2), 2, 1, -1)
        self.check("((x - y) * 10)", (10, -10), 0, 0, box)
        self.check("((x - y) * (x - y))", (0, 0), 1, 4, box)
        self.check("((x - y) * ((x - x) + 3))", (0, 0), 3, 6, box)

    def test_great_numbers(self):
        box = range_box(((-FAR, FAR), (-FAR, FAR), (0, 0)))
        self.check("(x * y)", (0, 0, 0), -FAR * FAR, FAR * FAR, box)

    def test_nested_by_chance(self):
        chance = random.Random(1)
        linear = 0
        for _ in range(500):
            box = None
            while box is None:
                box = chance_box(chance, 3, 2)
            expression = chance_number(chance, 3, ["x", "y", "k", "zero", "m"])
            form = form_of(expression, KNOWN, NAMES, box)
            self.assertEqual(form[0][2], 0)
            for point in points_of(box, 2):
                value = evaluate(expression, {**KNOWN, "x": point[0], "y": point[1]})
                least, greatest = stands_for(form, point)
                self.assertTrue(least <= value <= greatest)
            linear += is_linear(expression)
            if is_linear(expression):
                self.assertEqual(form[1], form[2])
            elif expression[0] == "*" and varies(expression[1]) and varies(expression[2]):
                first, second = [range_of_form(form_of(part, KNOWN, NAMES, box), box)
                                 for part in expression[1:]]
                ends = [a * b for a in first for b in second]
                self.assertEqual(form, ((0, 0, 0), min(ends), max(ends)))
        self.assertIn(linear, range(100, 400))

    def test_nothing_is_changed(self):
        known = {"k": 3}
        form_of(("*", ("name", "k"), ("name", "x")), known, ("x",), range_box(((0, 9),)))
        self.assertEqual(known, {"k": 3})


class TestRangeOfForm(unittest.TestCase):
    def check(self, box, form, *wanted):
        self.assertEqual(repr(range_of_form(form, box)), repr(wanted))

    def test_no_coefficients(self):
        self.check(NO_COLUMNS, ((), 3, 8), 3, 8)
        self.check(BOX, ((0, 0, 0), 3, 8), 3, 8)
        self.check(BOX, ((0, 0, 0), -2, -2), -2, -2)

    def test_one_coefficient(self):
        self.check(BOX, ((1, 0, 0), 0, 0), 2, 5)
        self.check(BOX, ((-1, 0, 0), 0, 0), -5, -2)
        self.check(BOX, ((0, 3, 0), -1, 10), -10, 22)
        self.check(BOX, ((0, -3, 0), -1, 10), -13, 19)

    def test_a_difference_of_columns(self):
        # The first column is at most 2 greater, the second one at most 1.
        tied = close(((0, 0, 0, 0), (9, 0, 2, 9), (9, 1, 0, 9), (9, 9, 9, 0)))
        self.check(tied, ((1, -1, 0), 0, 0), -1, 2)
        self.check(tied, ((-1, 1, 0), 0, 0), -2, 1)
        self.check(tied, ((1, -1, 0), -10, 100), -11, 102)
        self.check(tied, ((1, 0, -1), 0, 0), -9, 9)

    def test_no_difference(self):
        tied = close(((0, 0, 0, 0), (9, 0, 2, 9), (9, 1, 0, 9), (9, 9, 9, 0)))
        # A third column, other numbers, or the same sign: each column for itself.
        self.check(tied, ((1, -1, 1), 0, 0), -9, 18)
        self.check(tied, ((1, -1, -3), 0, 0), -36, 9)
        self.check(tied, ((2, -2, 0), 0, 0), -18, 18)
        self.check(tied, ((2, -1, 0), 0, 0), -9, 18)
        self.check(tied, ((1, -2, 0), 0, 0), -18, 9)
        self.check(tied, ((1, 1, 0), 0, 0), 0, 18)
        self.check(tied, ((-1, -1, 0), 0, 0), -18, 0)
        self.check(tied, ((1, 1, -1), 5, 6), -4, 24)

    def test_great_numbers(self):
        self.check(range_box(((-FAR, FAR), (5, 5))), ((FAR, 1), 0, 0), -FAR * FAR + 5, FAR * FAR + 5)

    def test_by_chance(self):
        chance = random.Random(2)
        for _ in range(500):
            box = chance_box(chance, 3, 3)
            if box is None:
                continue
            low = chance.randrange(-4, 5)
            form = (tuple(chance.choice([0, 0, 1, 1, -1, -1, 2, -3]) for _ in range(3)),
                    low, low + chance.randrange(4))
            found = range_of_form(form, box)
            ends = [stands_for(form, point) for point in points_of(box, 3)]
            least, greatest = min(end[0] for end in ends), max(end[1] for end in ends)
            self.assertTrue(found[0] <= least and greatest <= found[1])
            used = sorted(each for each in form[0] if each)
            if len(used) < 2 or used == [-1, 1]:
                self.assertEqual(found, (least, greatest))


if __name__ == "__main__":
    unittest.main()
