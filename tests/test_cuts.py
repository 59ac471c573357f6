"""Points 40 to 42."""

import random
import unittest

from neverhappens.boxes import free_column
from neverhappens.cuts import assign, assume, at_least, at_most, equal_to
from neverhappens.forms import form_of, range_of_form
from neverhappens.reading import read_expression
from neverhappens.values import evaluate
from neverhappens.zones import bound, close, is_inside, join_boxes, range_box
from tests.slow import FAR, NO_COLUMNS, BoxCase, chance_box, hull, points_of
from tests.test_forms import KNOWN, NAMES, chance_number, stands_for

BOX = range_box(((2, 9), (-3, 4)))
TIED = close(((0, 0, 0), (9, 0, 2), (9, 1, 0)))


def chance_form(chance, count):
    """A form of so many columns."""
    low = chance.randrange(-5, 6)
    coefficients = [0] * count
    for at in range(count):
        if chance.random() < 0.5:
            coefficients[at] = chance.choice([1, 1, 1, -1, -1, -1, 2, -2, 3, -3])
    return (tuple(coefficients), low, low + chance.randrange(4))


def is_exact(form):
    """True if a cut by the form takes away all points that it should."""
    used = sorted(each for each in form[0] if each)
    return len(used) < 2 or used == [-1, 1]


class TestAtMost(BoxCase):
    def test_none(self):
        for form in (((), 0, 0), ((1, -1), 0, 0), ((2, 3), 0, 9)):
            self.assertIsNone(at_most(None, form, 5))
            self.assertIsNone(at_least(None, form, 5))
            self.assertIsNone(equal_to(None, form, 5))

    def test_no_coefficients(self):
        for box, form in ((NO_COLUMNS, ((), 3, 7)), (BOX, ((0, 0), 3, 7))):
            self.assertIsNone(at_most(box, form, 2))
            self.assertEqual(at_most(box, form, 3), box)
            self.assertEqual(at_most(box, form, 4), box)
            self.assertIsNone(at_least(box, form, 8))
            self.assertEqual(at_least(box, form, 7), box)
            self.assertEqual(at_least(box, form, 6), box)

    def test_coefficient_1(self):
        form = ((1, 0), 10, 12)
        self.assertIsNone(at_most(BOX, form, 11))
        self.assertEqual(at_most(BOX, form, 12), range_box(((2, 2), (-3, 4))))
        self.assertEqual(at_most(BOX, form, 13), range_box(((2, 3), (-3, 4))))
        self.assertEqual(at_most(BOX, form, 18), range_box(((2, 8), (-3, 4))))
        self.assertEqual(at_most(BOX, form, 19), BOX)
        self.assertEqual(at_most(BOX, form, 20), BOX)
        self.assertIsNone(at_least(BOX, form, 22))
        self.assertEqual(at_least(BOX, form, 21), range_box(((9, 9), (-3, 4))))
        self.assertEqual(at_least(BOX, form, 14), BOX)
        self.assertEqual(at_least(BOX, form, 15), range_box(((3, 9), (-3, 4))))

    def test_divisions_that_are_not_whole(self):
        # 3 * y is at most 5, 6 or 7 if y is at most 1, 2 or 2; at most -5 if y is at most -2.
        for most, wanted in ((5, 1), (6, 2), (7, 2), (-5, -2), (-6, -2), (-7, -3)):
            self.assertEqual(at_most(BOX, ((0, 3), 0, 0), most), range_box(((2, 9), (-3, wanted))))
        # -3 * y is at most 5 if y is at least -1.
        for most, wanted in ((5, -1), (6, -2), (7, -2), (-5, 2), (-6, 2), (-7, 3)):
            self.assertEqual(at_most(BOX, ((0, -3), 0, 0), most), range_box(((2, 9), (wanted, 4))))
        for least, wanted in ((5, 2), (6, 2), (7, 3), (-5, -1), (-6, -2), (-7, -2)):
            self.assertEqual(at_least(BOX, ((0, 3), 0, 0), least), range_box(((2, 9), (wanted, 4))))
        for least, wanted in ((5, -2), (6, -2), (7, -3), (-5, 1), (-6, 2), (-7, 2)):
            self.assertEqual(at_least(BOX, ((0, -3), 0, 0), least), range_box(((2, 9), (-3, wanted))))
        self.assertEqual(at_most(BOX, ((0, -3), 1, 9), 6), range_box(((2, 9), (-1, 4))))

    def test_a_difference(self):
        self.assertEqual(at_most(BOX, ((1, -1), 0, 0), 3), bound(BOX, 1, 2, 3))
        self.assertEqual(at_most(BOX, ((1, -1), 5, 9), 3), bound(BOX, 1, 2, -2))
        self.assertEqual(at_most(BOX, ((-1, 1), 0, 0), -3), bound(BOX, 2, 1, -3))
        self.assertEqual(at_least(BOX, ((1, -1), 0, 0), 3), bound(BOX, 2, 1, -3))
        self.assertEqual(at_least(BOX, ((1, -1), 5, 9), 3), bound(BOX, 2, 1, 6))
        self.assertIsNone(at_most(BOX, ((1, -1), 0, 0), -3))
        self.assertEqual(at_most(BOX, ((1, -1), 0, 0), -2), range_box(((2, 2), (4, 4))))
        self.assertEqual(at_most(TIED, ((1, -1), 0, 0), 2), TIED)

    def test_other_forms(self):
        for form in (((1, 1), 0, 5), ((2, -2), 0, 5), ((-1, -1), 0, 5), ((1, -2), 0, 5)):
            least, greatest = range_of_form(form, BOX)
            self.assertIsNone(at_most(BOX, form, least - 1))
            self.assertEqual(at_most(BOX, form, least), BOX)
            self.assertEqual(at_most(BOX, form, least + 1), BOX)
            self.assertIsNone(at_least(BOX, form, greatest + 1))
            self.assertEqual(at_least(BOX, form, greatest), BOX)
            self.assertEqual(at_least(BOX, form, greatest - 1), BOX)
        three = close(((0, 0, 0, 0), (9, 0, 2, 9), (9, 1, 0, 9), (9, 9, 9, 0)))
        self.assertEqual(at_most(three, ((1, -1, 1), 0, 0), -9), three)
        self.assertIsNone(at_most(three, ((1, -1, 1), 0, 0), -10))

    def test_equal_to(self):
        self.assertEqual(equal_to(BOX, ((1, 0), 0, 0), 5), range_box(((5, 5), (-3, 4))))
        self.assertEqual(equal_to(BOX, ((1, 0), 0, 2), 5), range_box(((3, 5), (-3, 4))))
        self.assertEqual(equal_to(BOX, ((1, -1), 0, 0), 5), bound(bound(BOX, 1, 2, 5), 2, 1, -5))
        self.assertIsNone(equal_to(BOX, ((1, 0), 0, 0), 10))
        self.assertIsNone(equal_to(BOX, ((1, 0), 0, 0), 1))
        # No number of the column gives 5.
        self.assertIsNone(equal_to(BOX, ((0, 2), 0, 0), 5))
        self.assertIsNone(equal_to(BOX, ((0, 0), 3, 3), 4))
        self.assertIsNone(equal_to(BOX, ((0, 0), 3, 3), 2))
        self.assertEqual(equal_to(BOX, ((0, 0), 3, 5), 4), BOX)

    def test_great_numbers(self):
        box = range_box(((-FAR, FAR),))
        self.assertEqual(at_most(box, ((7,), 3, 3), FAR), range_box(((-FAR, (FAR - 3) // 7),)))
        self.assertEqual(at_least(box, ((1,), 0, 0), FAR), range_box(((FAR, FAR),)))

    def test_by_chance(self):
        chance = random.Random(1)
        for _ in range(1500):
            count = chance.randrange(4)
            box = chance_box(chance, count, 3)
            form = chance_form(chance, count)
            value = chance.randrange(-8, 9)
            points = points_of(box, 3)
            low = {point for point in points if stands_for(form, point)[0] <= value}
            high = {point for point in points if stands_for(form, point)[1] >= value}
            found = (at_most(box, form, value), at_least(box, form, value), equal_to(box, form, value))
            for cut, kept in zip(found, (low, high, low & high)):
                self.assertTrue(is_inside(cut, box) and is_inside(hull(kept, count), cut))
                if is_exact(form):
                    self.check_box(cut, kept, count)
                elif cut is not None:
                    self.assertEqual(cut, box)


class TestAssign(BoxCase):
    def test_none(self):
        for form in (((0, 0), 0, 9), ((1, 0), 0, 9), ((0, 1), 0, 9), ((1, 1), 0, 9)):
            self.assertIsNone(assign(None, 1, form, 0, 9))

    def test_no_coefficients(self):
        self.assertEqual(assign(TIED, 1, ((0, 0), 3, 7), 0, 9), free_column(TIED, 1, 3, 7))
        self.assertEqual(assign(TIED, 1, ((0, 0), 3, 7), 5, 9), free_column(TIED, 1, 5, 7))
        self.assertEqual(assign(TIED, 1, ((0, 0), 3, 7), 0, 4), free_column(TIED, 1, 3, 4))
        self.assertEqual(assign(TIED, 2, ((0, 0), 3, 7), 7, 9), free_column(TIED, 2, 7, 7))
        self.assertEqual(assign(TIED, 2, ((0, 0), 3, 7), 0, 3), free_column(TIED, 2, 3, 3))
        self.assertIsNone(assign(TIED, 2, ((0, 0), 3, 7), 8, 9))
        self.assertIsNone(assign(TIED, 2, ((0, 0), 3, 7), 0, 2))

    def test_another_column(self):
        found = assign(BOX, 1, ((0, 1), 5, 6), 0, 20)
        self.assertEqual(found, bound(bound(range_box(((2, 10), (-3, 4))), 1, 2, 6), 2, 1, -5))
        # Only where the number lies in the range.
        found = assign(BOX, 1, ((0, 1), 5, 5), 7, 8)
        self.assertEqual(found, hull([(7, 2), (8, 3)], 2))
        self.assertIsNone(assign(BOX, 1, ((0, 1), 5, 5), 10, 20))
        self.assertIsNone(assign(BOX, 1, ((0, 1), 5, 5), 0, 1))
        self.assertEqual(assign(BOX, 1, ((0, 1), 5, 5), 9, 20), range_box(((9, 9), (4, 4))))
        # What the column had in common with others is gone.
        self.assertEqual(assign(TIED, 2, ((1, 0), 0, 0), 0, 9), hull([(0, 0), (9, 9)], 2))

    def test_the_column_itself(self):
        self.assertEqual(assign(TIED, 1, ((1, 0), 1, 1), 0, 9),
                         close(((0, -1, 0), (9, 0, 3), (9, 0, 0))))
        self.assertEqual(assign(BOX, 1, ((1, 0), -1, 3), 0, 9), range_box(((1, 9), (-3, 4))))
        self.assertEqual(assign(BOX, 1, ((1, 0), -1, -1), 3, 9), range_box(((3, 8), (-3, 4))))
        self.assertIsNone(assign(BOX, 1, ((1, 0), 8, 9), 0, 9))
        self.assertEqual(assign(BOX, 1, ((1, 0), 7, 9), 0, 9), range_box(((9, 9), (-3, 4))))
        self.assertIsNone(assign(BOX, 1, ((1, 0), -12, -10), 0, 9))
        self.assertEqual(assign(BOX, 1, ((1, 0), -12, -9), 0, 9), range_box(((0, 0), (-3, 4))))

    def test_other_forms(self):
        # -1 times a column, twice a column, a sum and a difference of two.
        self.assertEqual(assign(TIED, 1, ((-1, 0), 0, 0), -20, 20), free_column(TIED, 1, -9, 0))
        self.assertEqual(assign(TIED, 1, ((0, -1), 9, 9), -20, 20), free_column(TIED, 1, 0, 9))
        self.assertEqual(assign(TIED, 2, ((0, 2), 0, 0), 0, 9), free_column(TIED, 2, 0, 9))
        self.assertEqual(assign(TIED, 2, ((1, 1), 0, 1), 0, 99), free_column(TIED, 2, 0, 19))
        self.assertEqual(assign(TIED, 2, ((1, -1), 5, 6), 0, 99), free_column(TIED, 2, 4, 8))
        self.assertEqual(assign(TIED, 2, ((1, -1), 5, 6), 6, 7), free_column(TIED, 2, 6, 7))
        self.assertIsNone(assign(TIED, 2, ((1, -1), 5, 6), 9, 99))
        self.assertIsNone(assign(TIED, 2, ((1, -1), 5, 6), 0, 3))

    def test_great_numbers(self):
        box = range_box(((-FAR, FAR), (0, 1)))
        self.assertEqual(assign(box, 2, ((1, 0), FAR, FAR), 0, 3 * FAR),
                         bound(bound(range_box(((-FAR, FAR), (0, 2 * FAR))), 1, 2, -FAR), 2, 1, FAR))

    def test_by_chance(self):
        chance = random.Random(2)
        for _ in range(1500):
            count = chance.randrange(1, 4)
            box = chance_box(chance, count, 2)
            form = chance_form(chance, count)
            i = chance.randrange(1, count + 1)
            lo = chance.randrange(-3, 3)
            hi = lo + chance.randrange(4)
            points = set()
            for point in points_of(box, 2):
                least, greatest = stands_for(form, point)
                for value in range(max(lo, least), min(hi, greatest) + 1):
                    points.add((*point[:i - 1], value, *point[i:]))
            found = assign(box, i, form, lo, hi)
            used = [each for each in form[0] if each]
            if used in ([], [1]):
                self.check_box(found, points, count)
            elif box is None:
                self.assertIsNone(found)
            else:
                least, greatest = range_of_form(form, box)
                self.assertEqual(found, free_column(box, i, max(lo, least), min(hi, greatest)))
                self.assertTrue(is_inside(hull(points, count), found))


class TestAssume(BoxCase):
    box = range_box(((0, 9), (0, 9)))

    def assumed(self, text, want, box="own"):
        known = {**KNOWN, "f": True, "g": False, "r": None, "s": 0, "t": 0, "u": 1}
        return assume(read_expression(text), want, known, NAMES, self.box if box == "own" else box)

    def kept(self, text, *points):
        """The points for True, then for False, are those of the hulls of these."""
        self.assertEqual((self.assumed(text, True), self.assumed(text, False)),
                         tuple(hull(found, 2) for found in points))

    def whole_or_none(self, text, want):
        self.assertEqual(self.assumed(text, want), self.box)
        self.assertIsNone(self.assumed(text, not want))

    def test_none(self):
        for text in ("f", "true", "(r same null)", "(not g)", "(f and true)", "(f or true)", "(x < y)",
                     "(x <= y)", "(x == y)", "(x != y)", "(1 < 2)"):
            for want in (True, False):
                self.assertIsNone(self.assumed(text, want, None))

    def test_flags(self):
        self.whole_or_none("true", True)
        self.whole_or_none("false", False)
        self.whole_or_none("f", True)
        self.whole_or_none("g", False)

    def test_same(self):
        for text, want in (("(null same null)", True), ("(r same null)", True), ("(null same s)", False),
                           ("(s same t)", True), ("(s same u)", False), ("(r same s)", False)):
            self.whole_or_none(text, want)

    def test_not(self):
        self.whole_or_none("(not f)", False)
        self.whole_or_none("(not (not f))", True)
        self.assertEqual(self.assumed("(not (x < 3))", True), range_box(((3, 9), (0, 9))))
        self.assertEqual(self.assumed("(not (x < 3))", False), range_box(((0, 2), (0, 9))))
        self.assertEqual(self.assumed("(not (not (x < 3)))", True), range_box(((0, 2), (0, 9))))

    def test_comparisons_of_known_names(self):
        for text, want in (("(k < 3)", False), ("(k < 4)", True), ("(k <= 2)", False), ("(k <= 3)", True),
                           ("(k == 3)", True), ("(k == 4)", False), ("(k == 2)", False), ("(k != 3)", False),
                           ("(k != 4)", True), ("(k != 2)", True), ("((k + m) < zero)", True)):
            self.whole_or_none(text, want)

    def test_comparisons_of_a_large_name(self):
        def rows(low, high):
            return [(value, other) for value in range(low, high + 1) for other in (0, 9)]
        self.kept("(x < 4)", rows(0, 3), rows(4, 9))
        self.kept("(x <= 4)", rows(0, 4), rows(5, 9))
        self.kept("(4 < x)", rows(5, 9), rows(0, 4))
        self.kept("(4 <= x)", rows(4, 9), rows(0, 3))
        self.kept("(x == 4)", rows(4, 4), rows(0, 9))
        self.kept("(x == 0)", rows(0, 0), rows(1, 9))
        self.kept("(x == 9)", rows(9, 9), rows(0, 8))
        self.kept("(x == 10)", [], rows(0, 9))
        self.kept("(x != 4)", rows(0, 9), rows(4, 4))
        self.kept("(x != 9)", rows(0, 8), rows(9, 9))
        self.kept("(x < 0)", [], rows(0, 9))
        self.kept("(x < 10)", rows(0, 9), [])
        self.kept("(x <= 9)", rows(0, 9), [])
        self.kept("(k < x)", rows(4, 9), rows(0, 3))

    def test_comparisons_of_two_large_names(self):
        points = points_of(self.box, 9)
        self.kept("(x < y)", {(x, y) for x, y in points if x < y}, {(x, y) for x, y in points if x >= y})
        self.kept("(x <= y)", {(x, y) for x, y in points if x <= y}, {(x, y) for x, y in points if x > y})
        self.kept("(x == y)", {(x, x) for x in range(10)}, points)
        self.kept("(x != y)", points, {(x, x) for x in range(10)})
        self.kept("((x + 4) < y)", {(x, y) for x, y in points if x + 4 < y},
                  {(x, y) for x, y in points if x + 4 >= y})
        # Both sides count with their forms on the box that is given.
        self.kept("((x * y) < (y - x))", {(x, y) for x, y in points if x < y}, points)
        self.kept("((x * y) <= 81)", points, [])
        self.kept("((x * y) < 0)", [], points)

    def test_and(self):
        self.assertEqual(self.assumed("((x < 5) and (2 < y))", True), range_box(((0, 4), (3, 9))))
        self.assertEqual(self.assumed("((x < 5) and (2 < x))", True), range_box(((3, 4), (0, 9))))
        self.assertIsNone(self.assumed("((x < 5) and (7 < x))", True))
        # For False each operand is taken on the given box: 5..9 and 0..2 are joined.
        self.assertEqual(self.assumed("((x < 5) and (2 < x))", False), self.box)
        self.assertEqual(self.assumed("((x < 5) and (x < 7))", False), range_box(((5, 9), (0, 9))))
        self.assertEqual(self.assumed("((x < 5) and f)", False), range_box(((5, 9), (0, 9))))
        self.assertEqual(self.assumed("(g and (x < 5))", False), self.box)
        self.assertIsNone(self.assumed("(g and (x < 5))", True))
        self.assertIsNone(self.assumed("(f and (x < 10))", False))

    def test_the_second_operand_on_the_box_of_the_first(self):
        # The range of a product is told by the box: at most 81 at first, at most 0 when x is 0.
        self.assertIsNone(self.assumed("((x < 1) and (0 < (x * y)))", True))
        self.assertEqual(self.assumed("((0 < (x * y)) and (x < 1))", True), range_box(((0, 0), (0, 9))))
        self.assertIsNone(self.assumed("((0 < x) or ((x * y) < 1))", False))
        self.assertEqual(self.assumed("(((x * y) < 1) or (0 < x))", False), range_box(((0, 0), (0, 9))))

    def test_or(self):
        self.assertEqual(self.assumed("((x < 5) or (y < 3))", False), range_box(((5, 9), (3, 9))))
        self.assertIsNone(self.assumed("((x < 5) or (4 < x))", False))
        self.assertEqual(self.assumed("((x < 2) or (x < 5))", True), range_box(((0, 4), (0, 9))))
        # For True each operand is taken on the given box: 0..2 and 8..9 are joined.
        self.assertEqual(self.assumed("((x < 3) or (7 < x))", True), self.box)
        self.assertEqual(self.assumed("((x < 3) or (x == 4))", True), range_box(((0, 4), (0, 9))))
        self.assertEqual(self.assumed("(g or (x < 3))", True), range_box(((0, 2), (0, 9))))
        self.assertIsNone(self.assumed("(g or (x < 0))", True))

    def test_the_joined_operands_stand_on_the_given_box(self):
        # If the second one were taken behind the first one, x would be 9.
        self.assertEqual(self.assumed("((x < 9) and ((x * y) < 1))", False), range_box(((0, 9), (0, 9))))
        # (x * y) is at least 1 somewhere in the given box, nowhere where x is 0.
        self.assertEqual(self.assumed("((x == 0) or (0 < (x * y)))", True), self.box)
        self.assertEqual(self.assumed("((0 < x) and ((x * y) < 1))", False), self.box)

    def test_nested(self):
        self.assertEqual(self.assumed("(not ((x < 3) or (not (y < 5))))", True), range_box(((3, 9), (0, 4))))
        self.assertEqual(self.assumed("(((x < 3) or (y < 5)) and (not (y < 5)))", True),
                         range_box(((0, 9), (5, 9))))
        self.assertEqual(self.assumed("((not (y < 5)) and ((x < 3) or (y < 5)))", True),
                         range_box(((0, 2), (5, 9))))

    def chance_flag(self, chance, depth):
        if depth == 0 or chance.random() < 0.4:
            word = chance.choice(["<", "<=", "==", "!=", "flag", "name"])
            if word in ("flag", "name"):
                return (word, chance.random() < 0.5) if word == "flag" else ("name", "f")
            return (word, *[chance_number(chance, 1, ["x", "y", "k", "zero"]) for _ in range(2)])
        word = chance.choice(["not", "and", "or", "and", "or"])
        return (word, *[self.chance_flag(chance, depth - 1) for _ in range(1 if word == "not" else 2)])

    def slow_assume(self, expression, want, box):
        """The words of point 42 once more."""
        word = expression[0]
        if box is None:
            return None
        if word == "not":
            return self.slow_assume(expression[1], not want, box)
        if (word, want) in (("and", True), ("or", False)):
            return self.slow_assume(expression[2], want, self.slow_assume(expression[1], want, box))
        if word in ("and", "or"):
            return join_boxes(*[self.slow_assume(part, want, box) for part in expression[1:]])
        if word in ("flag", "name"):
            return box if (expression[1] if word == "flag" else KNOWN[expression[1]]) is want else None
        form = form_of(("-", expression[1], expression[2]), KNOWN, NAMES, box)
        return {
            ("<", True): lambda: at_most(box, form, -1),
            ("<", False): lambda: at_least(box, form, 0),
            ("<=", True): lambda: at_most(box, form, 0),
            ("<=", False): lambda: at_least(box, form, 1),
            ("==", True): lambda: equal_to(box, form, 0),
            ("!=", False): lambda: equal_to(box, form, 0),
            ("==", False): lambda: join_boxes(at_most(box, form, -1), at_least(box, form, 1)),
            ("!=", True): lambda: join_boxes(at_most(box, form, -1), at_least(box, form, 1)),
        }[word, want]()

    def test_by_chance(self):
        chance = random.Random(3)
        cuts = 0
        for _ in range(1500):
            box = chance_box(chance, 3, 2)
            expression = self.chance_flag(chance, 3)
            for want in (True, False):
                found = assume(expression, want, KNOWN, NAMES, box)
                self.assertEqual(found, self.slow_assume(expression, want, box))
                self.assertTrue(is_inside(found, box))
                cuts += found != box
                kept = {point for point in points_of(box, 2)
                        if evaluate(expression, {**KNOWN, "x": point[0], "y": point[1]}) is want}
                self.assertTrue(is_inside(hull(kept, 3), found))
        self.assertGreater(cuts, 200)


if __name__ == "__main__":
    unittest.main()
