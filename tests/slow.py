"""Boxes point by point, to compare the functions for boxes with, and boxes made by chance."""

import itertools
import random
import unittest

from neverhappens.zones import close

NO_COLUMNS = ((0,),)
FAR = 10 ** 599


def belongs(matrix, point):
    """True if the point belongs to the matrix, by the words of the document."""
    values = (0, *point)
    return all(values[i] - values[j] <= matrix[i][j]
               for i in range(len(values)) for j in range(len(values)))


def points_of(matrix, span):
    """The set of the points of a matrix, or of None, whose values lie between -span and span."""
    if matrix is None:
        return set()
    values = range(-span, span + 1)
    return {point for point in itertools.product(values, repeat=len(matrix) - 1)
            if belongs(matrix, point)}


def hull(points, count):
    """The least box of so many columns that has all these points."""
    if not points:
        return None
    wide = [(0, *point) for point in points]
    return tuple(
        tuple(max(point[i] - point[j] for point in wide) for j in range(count + 1))
        for i in range(count + 1)
    )


def is_closed(matrix):
    """True if a matrix is closed, by the words of the document."""
    indexes = range(len(matrix))
    return all(matrix[i][i] == 0 for i in indexes) and all(
        matrix[i][j] <= matrix[i][k] + matrix[k][j]
        for i in indexes for j in indexes for k in indexes
    )


def chance_matrix(chance, count, span, diagonal=(0,)):
    """A matrix of so many columns, whose points have no values beyond the span."""
    return tuple(
        tuple(
            chance.choice(diagonal) if i == j
            else chance.randrange(-1, span + 1) if i == 0 or j == 0
            else chance.randrange(-span, 3 * span)
            for j in range(count + 1)
        )
        for i in range(count + 1)
    )


def chance_box(chance, count, span):
    """A box, which is None now and then, whose points have no values beyond the span."""
    return close(chance_matrix(chance, count, span))


def point_box(point):
    """The box that has this point alone."""
    return hull([point], len(point))


def is_plain_tuple(value):
    """True for integers and for tuples of such, however deep."""
    if isinstance(value, tuple):
        return all(map(is_plain_tuple, value))
    return type(value) is int


def boxes_by_chance(seed, rounds, span=4):
    """Pairs of a number of columns and a box of so many, which may be None."""
    chance = random.Random(seed)
    for _ in range(rounds):
        count = chance.randrange(4)
        yield count, chance_box(chance, count, span)


class BoxCase(unittest.TestCase):
    def check_box(self, box, points, count):
        """The box has exactly these points, is closed, and is the least such box."""
        self.assertEqual(box, hull(points, count))
        if box is not None:
            self.assertTrue(is_closed(box))
            self.assertTrue(is_plain_tuple(box))
            span = max(max(map(abs, point), default=0) for point in points) + 1
            self.assertEqual(points_of(box, span), set(points))
