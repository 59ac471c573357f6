"""What is known about the inputs of runs that have made the same visits."""

from neverhappens.boxes import add_columns
from neverhappens.sums import column_sum, cut_sum, is_number, is_sharp, minus, reach, times
from neverhappens.zones import bound, least_point, range_of

# The one box without columns.
NO_COLUMNS = ((0,),)
# How often what a box tells is narrowed by what it cannot tell exactly.
ROUNDS = 4
# How many of the least values of a column are tried, beside some others.
MANY = 100


class Limits:
    """The inputs so far, and what they must keep.

    An input is a number, or a pair of a column and the least value that the column has. The box
    tells what can be told exactly; `loose` are pairs of a sum and what it is at most, and `products`
    are triples of a column and the two sums whose product it is.
    """

    def __init__(self, box, inputs_read, loose, products):
        self.box = box
        self.inputs_read = inputs_read
        self.loose = loose
        self.products = products

    def is_exact(self):
        """True if the box alone tells which inputs there are."""
        return self.loose == () and self.products == ()

    def at_most(self, total, most):
        """The limits where a sum is at most this, None if there are surely no such inputs."""
        box = cut_sum(self.box, total, most)
        if box is None:
            return None
        loose = self.loose if is_sharp(total) else (*self.loose, (total, most))
        return Limits(box, self.inputs_read, loose, self.products)

    def at_least(self, total, least):
        """The limits where a sum is at least this, None if there are surely no such inputs."""
        return self.at_most(times(total, -1), -least)

    def within(self, total, lo, hi):
        """The limits where a sum lies in lo..hi, None if there are surely no such inputs."""
        found = self.at_most(total, hi)
        return None if found is None else found.at_least(total, lo)

    def outside(self, total, lo, hi):
        """The list of the limits where a sum is less than lo, and where it is more than hi."""
        both = [self.at_most(total, lo - 1), self.at_least(total, hi + 1)]
        return [limits for limits in both if limits is not None]

    def with_read(self, cell):
        """The limits behind an input that is this number."""
        return Limits(self.box, (*self.inputs_read, cell), self.loose, self.products)

    def with_column_read(self, lo, hi):
        """The pair of the limits behind an input into lo..hi and of the sum that it is."""
        column = len(self.box)
        cells = (*self.inputs_read, (column, lo))
        box = add_columns(self.box, ((lo, hi),))
        return Limits(box, cells, self.loose, self.products), column_sum(column)

    def with_product(self, left, right):
        """The pair of the limits and of the sum that stands for the product of two sums."""
        if is_number(left):
            return self, times(right, left[1])
        if is_number(right):
            return self, times(left, right[1])
        column = len(self.box)
        box = add_columns(self.box, (product_reach(self.box, left, right),))
        products = (*self.products, (column, left, right))
        return Limits(box, self.inputs_read, self.loose, products), column_sum(column)

    def narrowed(self, box):
        """The box, narrowed by what it cannot tell exactly."""
        for _ in range(0 if self.is_exact() else ROUNDS):
            before = box
            for total, most in self.loose:
                box = None if box is None else cut_sum(box, total, most)
            for column, left, right in self.products:
                box = None if box is None else cut_product(box, column, left, right)
            if box == before:
                break
        return box

    def inputs_at(self, point):
        """The list of the inputs whose columns have the values of a point."""
        return [
            point[cell[0] - 1] - cell[1] if isinstance(cell, tuple) else cell
            for cell in self.inputs_read
        ]

    def some_inputs(self, most):
        """The pair of a list of inputs that keeps the limits and of the number of boxes looked at.

        The list is None if none was found with so many boxes.
        """
        pending = [self.box]
        steps = 0
        while pending and steps < most:
            steps += 1
            box = self.narrowed(pending.pop())
            if box is not None:
                column = None if self.is_exact() else open_column(box)
                if column is None:
                    return self.inputs_at(least_point(box)), steps
                pending.extend(choices(box, column))
        return None, steps


def choices(box, column):
    """The boxes in which a column has one of some values, the last one to be tried first."""
    low, high = range_of(box, column)
    values = list(range(low, min(high, low + MANY) + 1))
    if high > low + MANY:
        values.extend([(low + high) // 2, high - 1, high])
    found = [bound(bound(box, column, 0, value), 0, column, -value) for value in values]
    found.reverse()
    return found


def product_reach(box, left, right):
    """The pair of the least and the greatest number that the box tells for a product."""
    products = [a * b for a in reach(box, left) for b in reach(box, right)]
    return (min(products), max(products))


def cut_equal(box, total, number):
    """The box where a sum may be this number."""
    box = cut_sum(box, total, number)
    return None if box is None else cut_sum(box, times(total, -1), -number)


def cut_product(box, column, left, right):
    """The box where a column may be the product of two sums."""
    product = column_sum(column)
    for one, other in ((left, right), (right, left)):
        low, high = reach(box, one)
        if low == high:
            # The product is a sum where one of the two is a number.
            return cut_equal(box, minus(product, times(other, low)), 0)
    low, high = product_reach(box, left, right)
    box = cut_sum(box, product, high)
    return None if box is None else cut_sum(box, times(product, -1), -low)


def open_column(box):
    """The column that has the fewest values of those with more than one, None if there is none."""
    found = None
    fewest = None
    for column in range(1, len(box)):
        low, high = range_of(box, column)
        if low < high and (fewest is None or high - low < fewest):
            found = column
            fewest = high - low
    return found
