"""Point 35."""

import itertools
import random
import unittest

from neverhappens.boxes import add_columns, free_column, pick_columns, shift_column, tie_boxes
from neverhappens.zones import bound, close, range_box
from tests.slow import FAR, NO_COLUMNS, BoxCase, belongs, boxes_by_chance, chance_box, points_of

# The first column is at most 2 greater than the second one, which is at most 1 greater.
BOX = close(((0, 0, 0), (9, 0, 2), (4, 1, 0)))


class TestAddColumns(BoxCase):
    def test_none(self):
        self.assertIsNone(add_columns(None, ()))
        self.assertIsNone(add_columns(None, ((0, 3),)))

    def test_no_ranges(self):
        self.assertEqual(add_columns(BOX, ()), BOX)
        self.assertEqual(add_columns(NO_COLUMNS, ()), NO_COLUMNS)

    def test_ranges(self):
        self.assertEqual(add_columns(NO_COLUMNS, ((2, 5),)), range_box(((2, 5),)))
        self.assertEqual(add_columns(range_box(((0, 1),)), ((2, 5), (-3, -3))),
                         range_box(((0, 1), (2, 5), (-3, -3))))
        self.assertEqual(add_columns(BOX, ((7, 8),)),
                         ((0, 0, 0, -7), (6, 0, 2, -1), (4, 1, 0, -3), (8, 8, 8, 0)))
        self.assertIsNone(add_columns(BOX, ((0, 1), (8, 7))))

    def test_great_numbers(self):
        self.assertEqual(add_columns(range_box(((-FAR, FAR),)), ((FAR, 2 * FAR),)),
                         range_box(((-FAR, FAR), (FAR, 2 * FAR))))

    def test_by_chance(self):
        chance = random.Random(1)
        for count, box in boxes_by_chance(2, 300, 2):
            ranges = []
            for _ in range(chance.randrange(3 if count < 3 else 2)):
                low = chance.randrange(-4, 3)
                ranges.append((low, low + chance.randrange(3)))
            values = [range(low, high + 1) for low, high in ranges]
            points = {(*point, *more) for point in points_of(box, 2)
                      for more in itertools.product(*values)}
            self.check_box(add_columns(box, tuple(ranges)), points, count + len(ranges))


class TestPickColumns(BoxCase):
    def test_none(self):
        self.assertIsNone(pick_columns(None, ()))
        self.assertIsNone(pick_columns(None, (2, 1)))

    def test_turned_round(self):
        self.assertEqual(pick_columns(BOX, (1, 2)), BOX)
        self.assertEqual(pick_columns(BOX, (2, 1)), ((0, 0, 0), (4, 0, 1), (6, 2, 0)))

    def test_left_out(self):
        self.assertEqual(pick_columns(BOX, (1,)), range_box(((0, 6),)))
        self.assertEqual(pick_columns(BOX, (2,)), range_box(((0, 4),)))
        self.assertEqual(pick_columns(BOX, ()), NO_COLUMNS)
        self.assertEqual(pick_columns(NO_COLUMNS, ()), NO_COLUMNS)

    def test_repeated(self):
        self.assertEqual(pick_columns(range_box(((2, 5),)), (1, 1)), ((0, -2, -2), (5, 0, 0), (5, 0, 0)))
        self.assertEqual(pick_columns(BOX, (2, 1, 2)),
                         ((0, 0, 0, 0), (4, 0, 1, 0), (6, 2, 0, 2), (4, 0, 1, 0)))

    def test_by_chance(self):
        chance = random.Random(3)
        for count, box in boxes_by_chance(4, 400, 2):
            if count:
                columns = tuple(chance.randrange(1, count + 1) for _ in range(chance.randrange(5)))
                points = {tuple(point[at - 1] for at in columns) for point in points_of(box, 2)}
                self.check_box(pick_columns(box, columns), points, len(columns))


class TestFreeColumn(BoxCase):
    def test_none(self):
        self.assertIsNone(free_column(None, 1, 0, 3))
        self.assertIsNone(free_column(BOX, 1, 4, 3))

    def test_columns(self):
        self.assertEqual(free_column(range_box(((2, 5),)), 1, -1, 9), range_box(((-1, 9),)))
        self.assertEqual(free_column(BOX, 1, 8, 9), range_box(((8, 9), (0, 4))))
        self.assertEqual(free_column(BOX, 2, -3, -3), range_box(((0, 6), (-3, -3))))
        box = bound(range_box(((0, 9), (0, 9), (0, 9))), 1, 3, -5)
        self.assertEqual(free_column(box, 2, 1, 2), bound(range_box(((0, 9), (1, 2), (0, 9))), 1, 3, -5))

    def test_great_numbers(self):
        self.assertEqual(free_column(BOX, 2, -FAR, FAR), range_box(((0, 6), (-FAR, FAR))))

    def test_by_chance(self):
        chance = random.Random(5)
        for count, box in boxes_by_chance(6, 400, 2):
            low = chance.randrange(-3, 3)
            high = low + chance.randrange(-1, 3)
            for i in range(1, count + 1):
                points = {(*point[:i - 1], value, *point[i:]) for point in points_of(box, 2)
                          for value in range(low, high + 1)}
                self.check_box(free_column(box, i, low, high), points, count)


class TestShiftColumn(BoxCase):
    def test_none(self):
        self.assertIsNone(shift_column(None, 1, 0, 3))

    def test_columns(self):
        self.assertEqual(shift_column(range_box(((2, 5),)), 1, -1, 3), range_box(((1, 8),)))
        self.assertEqual(shift_column(BOX, 1, 10, 10), ((0, -10, 0), (16, 0, 12), (4, -9, 0)))
        self.assertEqual(shift_column(BOX, 2, 1, 4), ((0, 0, -1), (6, 0, 1), (8, 5, 0)))
        self.assertEqual(shift_column(BOX, 2, 0, 0), BOX)
        self.assertEqual(shift_column(BOX, 1, -5, -5), ((0, 5, 0), (1, 0, -3), (4, 6, 0)))

    def test_great_numbers(self):
        self.assertEqual(shift_column(range_box(((0, 1),)), 1, -FAR, FAR), range_box(((-FAR, FAR + 1),)))

    def test_by_chance(self):
        chance = random.Random(7)
        for count, box in boxes_by_chance(8, 400, 2):
            low = chance.randrange(-3, 3)
            high = low + chance.randrange(3)
            for i in range(1, count + 1):
                points = {(*point[:i - 1], point[i - 1] + more, *point[i:])
                          for point in points_of(box, 2) for more in range(low, high + 1)}
                self.check_box(shift_column(box, i, low, high), points, count)


class TestTieBoxes(BoxCase):
    def test_none(self):
        self.assertIsNone(tie_boxes(None, None, (1,)))
        self.assertIsNone(tie_boxes(None, range_box(((0, 1),)), (1,)))
        self.assertIsNone(tie_boxes(BOX, None, (1,)))
        self.assertIsNone(tie_boxes(NO_COLUMNS, None, ()))

    def test_columns(self):
        self.assertEqual(tie_boxes(BOX, NO_COLUMNS, ()), BOX)
        self.assertEqual(tie_boxes(BOX, range_box(((6, 9),)), (1,)), ((0, -6, -4), (6, 0, 2), (4, -2, 0)))
        self.assertEqual(points_of(tie_boxes(BOX, BOX, (2, 1)), 9),
                         {(a, b) for a, b in points_of(BOX, 9) if belongs(BOX, (b, a))})
        self.assertIsNone(tie_boxes(BOX, range_box(((7, 9),)), (1,)))

    def test_columns_that_repeat(self):
        box = range_box(((0, 9),))
        self.assertEqual(tie_boxes(box, range_box(((2, 5), (4, 7))), (1, 1)), range_box(((4, 5),)))
        self.assertIsNone(tie_boxes(box, range_box(((2, 3), (4, 7))), (1, 1)))
        # The two columns of the other box differ at every point of it, but not at any of the box.
        other = bound(range_box(((0, 9), (0, 9))), 1, 2, -1)
        self.assertIsNone(tie_boxes(box, other, (1, 1)))
        other = bound(range_box(((0, 9), (0, 9))), 1, 2, 0)
        self.assertEqual(tie_boxes(box, other, (1, 1)), box)

    def test_great_numbers(self):
        box = range_box(((-FAR, FAR), (-FAR, FAR)))
        other = bound(box, 1, 2, -2 * FAR)
        self.assertEqual(tie_boxes(box, other, (2, 1)), range_box(((FAR, FAR), (-FAR, -FAR))))

    def test_by_chance(self):
        chance = random.Random(9)
        for count, box in boxes_by_chance(10, 600, 3):
            size = chance.randrange(3) if count else 0
            columns = tuple(chance.randrange(1, count + 1) for _ in range(size))
            other = chance_box(chance, size, 4)
            points = {point for point in points_of(box, 3)
                      if other is not None and belongs(other, tuple(point[at - 1] for at in columns))}
            self.check_box(tie_boxes(box, other, columns), points, count)


if __name__ == "__main__":
    unittest.main()
