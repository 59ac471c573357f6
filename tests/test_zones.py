"""Points 32 to 34."""

import random
import unittest

from neverhappens.zones import bound, close, greatest_point, has_point, is_inside, join_boxes
from neverhappens.zones import least_point, meet_boxes, range_box, range_of
from tests.slow import FAR, NO_COLUMNS, BoxCase, belongs, boxes_by_chance, chance_box, chance_matrix
from tests.slow import hull, is_closed, points_of


class TestClose(BoxCase):
    def test_no_columns(self):
        self.assertEqual(close(((0,),)), NO_COLUMNS)
        self.assertEqual(close(((5,),)), NO_COLUMNS)
        self.assertIsNone(close(((-1,),)))

    def test_one_column(self):
        self.assertEqual(close(((0, -2), (7, 0))), ((0, -2), (7, 0)))
        self.assertEqual(close(((0, -3), (3, 0))), ((0, -3), (3, 0)))
        self.assertIsNone(close(((0, -4), (3, 0))))

    def test_example_of_the_document(self):
        self.assertEqual(close(((0, 0, 0), (9, 0, 2), (4, 1, 0))), ((0, 0, 0), (6, 0, 2), (4, 1, 0)))

    def test_diagonal_above_0(self):
        self.assertEqual(close(((3, 5), (5, 9))), ((0, 5), (5, 0)))
        self.assertEqual(close(((9, 0, 0), (9, 8, 2), (4, 1, 7))), ((0, 0, 0), (6, 0, 2), (4, 1, 0)))

    def test_diagonal_below_0(self):
        for at in range(3):
            rows = [[5] * 3 for _ in range(3)]
            for other in range(3):
                rows[other][other] = -1 if other == at else 0
            self.assertIsNone(close(tuple(map(tuple, rows))))

    def test_over_several_columns(self):
        # Column 1 is at most column 2, this at most column 3, and so on; the last one is at most 1.
        rows = [[100] * 6 for _ in range(6)]
        for at in range(6):
            rows[at][at] = 0
        for at in range(1, 5):
            rows[at][at + 1] = 0
        rows[5][0] = 1
        found = close(tuple(map(tuple, rows)))
        self.assertTrue(is_closed(found))
        self.assertEqual([row[0] for row in found], [0, 1, 1, 1, 1, 1])
        self.assertEqual(found[1], (1, 0, 0, 0, 0, 0))
        rows[0][1] = -2
        self.assertIsNone(close(tuple(map(tuple, rows))))
        rows[0][1] = -1
        self.assertEqual(close(tuple(map(tuple, rows))), hull([(1,) * 5], 5))

    def test_a_circle_that_contradicts_itself(self):
        rows = [[50] * 4 for _ in range(4)]
        for at in range(4):
            rows[at][at] = 0
        rows[1][2], rows[2][3], rows[3][1] = 1, 1, -2
        self.assertIsNotNone(close(tuple(map(tuple, rows))))
        rows[3][1] = -3
        self.assertIsNone(close(tuple(map(tuple, rows))))

    def test_contradictions_between_many_columns(self):
        # Each pair of columns contradicts itself; the numbers may not grow without end.
        for count in (2, 20, 40):
            rows = [[0 if i == j else -1 for j in range(count + 1)] for i in range(count + 1)]
            self.assertIsNone(close(tuple(map(tuple, rows))))

    def test_great_numbers(self):
        self.assertEqual(
            close(((0, FAR, FAR), (FAR, 0, -FAR), (FAR, 2 * FAR + 1, 0))),
            ((0, FAR, 0), (0, 0, -FAR), (FAR, 2 * FAR, 0)),
        )

    def test_by_chance(self):
        chance = random.Random(1)
        found = 0
        for _ in range(1500):
            count = chance.randrange(4)
            diagonal = chance.choice([(0,), (0,), (0, 0, 0, 4), (0, 0, 0, 0, 0, 0, -1)])
            matrix = chance_matrix(chance, count, 3, diagonal)
            points = points_of(matrix, 3)
            self.check_box(close(matrix), points, count)
            found += bool(points)
        self.assertIn(found, range(300, 1400))

    def test_four_columns_by_chance(self):
        chance = random.Random(2)
        for _ in range(60):
            matrix = chance_matrix(chance, 4, 2)
            self.check_box(close(matrix), points_of(matrix, 2), 4)

    def test_closed_matrices_stay(self):
        for _, box in boxes_by_chance(3, 200):
            if box is not None:
                self.assertEqual(close(box), box)

    def test_boxes_with_the_same_points_are_equal(self):
        chance = random.Random(4)
        seen = {}
        for _ in range(3000):
            matrix = chance_matrix(chance, 2, 1)
            points = frozenset(points_of(matrix, 1))
            self.assertEqual(seen.setdefault(points, close(matrix)), close(matrix))
        self.assertGreater(len(seen), 10)

    def test_lists_are_not_changed(self):
        rows = [[0, 0, 0], [9, 3, 2], [4, 1, 0]]
        close(rows)
        self.assertEqual(rows, [[0, 0, 0], [9, 3, 2], [4, 1, 0]])


class TestRangeBox(BoxCase):
    def test_none(self):
        self.assertEqual(range_box(()), NO_COLUMNS)

    def test_ranges(self):
        self.assertEqual(range_box(((-2, 5),)), ((0, 2), (5, 0)))
        self.assertEqual(range_box(((3, 3), (-1, 4))), ((0, -3, 1), (3, 0, 4), (4, 1, 0)))
        ranges = ((-1, 1), (2, 3), (-3, -3))
        points = {(a, b, -3) for a in (-1, 0, 1) for b in (2, 3)}
        self.check_box(range_box(ranges), points, 3)

    def test_an_empty_range(self):
        self.assertIsNone(range_box(((3, 2),)))
        self.assertIsNone(range_box(((0, 9), (3, 2))))

    def test_great_numbers(self):
        self.assertEqual(range_box(((-FAR, FAR),)), ((0, FAR), (FAR, 0)))


class TestBound(BoxCase):
    def test_none(self):
        self.assertIsNone(bound(None, 0, 1, 5))

    def test_single_column(self):
        box = range_box(((0, 9),))
        self.assertEqual(bound(box, 1, 0, 9), box)
        self.assertEqual(bound(box, 1, 0, 100), box)
        self.assertEqual(bound(box, 1, 0, 8), range_box(((0, 8),)))
        self.assertEqual(bound(box, 1, 0, 0), range_box(((0, 0),)))
        self.assertIsNone(bound(box, 1, 0, -1))
        self.assertEqual(bound(box, 0, 1, 0), box)
        self.assertEqual(bound(box, 0, 1, -9), range_box(((9, 9),)))
        self.assertIsNone(bound(box, 0, 1, -10))

    def test_two_columns(self):
        box = range_box(((0, 9), (3, 5)))
        self.assertEqual(bound(box, 1, 2, -2), ((0, 0, -3), (3, 0, -2), (5, 5, 0)))

    def test_great_numbers(self):
        box = range_box(((-FAR, FAR), (-FAR, FAR)))
        self.assertEqual(bound(box, 1, 2, -2 * FAR), range_box(((-FAR, -FAR), (FAR, FAR))))
        self.assertIsNone(bound(box, 1, 2, -2 * FAR - 1))

    def test_by_chance(self):
        chance = random.Random(5)
        for count, box in boxes_by_chance(6, 500, 3):
            points = points_of(box, 3)
            for i in range(count + 1):
                for j in range(count + 1):
                    if i != j:
                        most = chance.randrange(-5, 6)
                        kept = {point for point in points
                                if (0, *point)[i] - (0, *point)[j] <= most}
                        self.check_box(bound(box, i, j, most), kept, count)


class TestJoinAndMeet(BoxCase):
    def test_none(self):
        for box in (None, NO_COLUMNS, range_box(((0, 3), (-2, 2)))):
            self.assertEqual(join_boxes(None, box), box)
            self.assertEqual(join_boxes(box, None), box)
            self.assertIsNone(meet_boxes(None, box))
            self.assertIsNone(meet_boxes(box, None))

    def test_join(self):
        # The points between the two boxes on the diagonal belong to the join, no others.
        found = join_boxes(range_box(((0, 0), (0, 0))), range_box(((4, 4), (4, 4))))
        self.assertEqual(points_of(found, 5), {(at, at) for at in range(5)})
        self.assertEqual(join_boxes(NO_COLUMNS, NO_COLUMNS), NO_COLUMNS)

    def test_meet(self):
        below = bound(range_box(((0, 9), (0, 9))), 1, 2, 0)
        above = bound(range_box(((3, 9), (0, 5))), 2, 1, -1)
        self.assertIsNone(meet_boxes(below, above))
        self.assertEqual(points_of(meet_boxes(below, range_box(((3, 9), (0, 4)))), 9),
                         {(3, 3), (3, 4), (4, 4)})
        self.assertEqual(meet_boxes(NO_COLUMNS, NO_COLUMNS), NO_COLUMNS)

    def test_meet_is_closed(self):
        one = bound(range_box(((0, 9), (0, 9), (0, 9))), 1, 2, -3)
        other = bound(range_box(((0, 9), (0, 9), (0, 9))), 2, 3, -3)
        self.assertEqual(range_of(meet_boxes(one, other), 3), (6, 9))

    def test_great_numbers(self):
        low, high = range_box(((-FAR, -FAR),)), range_box(((FAR, FAR),))
        self.assertEqual(join_boxes(low, high), range_box(((-FAR, FAR),)))
        self.assertIsNone(meet_boxes(low, high))

    def test_by_chance(self):
        chance = random.Random(7)
        for count, box in boxes_by_chance(8, 800, 3):
            other = chance_box(chance, count, 3)
            one, two = points_of(box, 3), points_of(other, 3)
            self.assertEqual(join_boxes(box, other), hull(one | two, count))
            self.check_box(meet_boxes(box, other), one & two, count)


class TestQuestions(unittest.TestCase):
    def test_inside_and_none(self):
        box = range_box(((0, 3),))
        self.assertIs(is_inside(None, None), True)
        self.assertIs(is_inside(None, box), True)
        self.assertIs(is_inside(box, None), False)
        self.assertIs(is_inside(NO_COLUMNS, None), False)
        self.assertIs(is_inside(NO_COLUMNS, NO_COLUMNS), True)

    def test_inside(self):
        box = range_box(((0, 3), (5, 9)))
        self.assertIs(is_inside(box, box), True)
        self.assertIs(is_inside(bound(box, 1, 0, 2), box), True)
        self.assertIs(is_inside(box, bound(box, 1, 0, 2)), False)
        self.assertIs(is_inside(bound(box, 2, 1, 8), box), True)
        self.assertIs(is_inside(box, bound(box, 2, 1, 8)), False)
        self.assertIs(is_inside(range_box(((4, 4), (5, 5))), box), False)

    def test_inside_by_chance(self):
        chance = random.Random(9)
        found = 0
        for count, box in boxes_by_chance(10, 800, 2):
            other = chance_box(chance, count, 2)
            wanted = points_of(box, 2) <= points_of(other, 2)
            self.assertIs(is_inside(box, other), wanted)
            found += wanted
        self.assertIn(found, range(100, 700))

    def test_has_point(self):
        self.assertIs(has_point(None, ()), False)
        self.assertIs(has_point(None, (3,)), False)
        self.assertIs(has_point(NO_COLUMNS, ()), True)
        box = bound(range_box(((0, 9), (0, 9))), 1, 2, -3)
        self.assertIs(has_point(box, (2, 5)), True)
        self.assertIs(has_point(box, (3, 5)), False)
        self.assertIs(has_point(box, (-1, 5)), False)
        self.assertIs(has_point(box, (7, 10)), False)
        self.assertIs(has_point(range_box(((-FAR, FAR),)), (FAR,)), True)
        self.assertIs(has_point(range_box(((-FAR, FAR),)), (FAR + 1,)), False)

    def test_has_point_by_chance(self):
        for count, box in boxes_by_chance(11, 60, 2):
            for point in points_of(((9,) * (count + 1),) * (count + 1), 3):
                self.assertIs(has_point(box, point), box is not None and belongs(box, point))

    def test_ranges_and_ends(self):
        self.assertIsNone(least_point(None))
        self.assertIsNone(greatest_point(None))
        self.assertEqual(least_point(NO_COLUMNS), ())
        self.assertEqual(greatest_point(NO_COLUMNS), ())
        box = close(((0, 0, 0), (9, 0, 2), (4, 1, 0)))
        self.assertEqual((least_point(box), greatest_point(box)), ((0, 0), (6, 4)))
        self.assertEqual((range_of(box, 1), range_of(box, 2)), ((0, 6), (0, 4)))
        box = range_box(((-FAR, -5), (3, FAR)))
        self.assertEqual((least_point(box), greatest_point(box)), ((-FAR, 3), (-5, FAR)))
        self.assertEqual((range_of(box, 1), range_of(box, 2)), ((-FAR, -5), (3, FAR)))

    def test_ends_by_chance(self):
        for count, box in boxes_by_chance(12, 400, 3):
            points = points_of(box, 3)
            if box is None:
                continue
            for at in range(count):
                values = [point[at] for point in points]
                self.assertEqual(range_of(box, at + 1), (min(values), max(values)))
                self.assertEqual(least_point(box)[at], min(values))
                self.assertEqual(greatest_point(box)[at], max(values))
            self.assertIn(least_point(box), points)
            self.assertIn(greatest_point(box), points)

    def test_kinds_of_the_answers(self):
        box = range_box(((0, 3), (5, 9)))
        for found in (least_point(box), greatest_point(box), range_of(box, 1)):
            self.assertIs(type(found), tuple)


if __name__ == "__main__":
    unittest.main()
