"""Boxes: sets of points in which columns differ by limited amounts.

A matrix tells for each two columns how much greater the first may be than the second; column 0
is always 0. A box is a closed matrix, in which all these limits are reached, or None, which has no
points.
"""


def close(matrix):
    """The box with the points of the matrix."""
    # No column differs from itself, so a number above 0 in the diagonal limits nothing.
    rows = [[min(most, 0) if i == j else most for j, most in enumerate(row)]
            for i, row in enumerate(matrix)]
    for middle in range(len(rows)):
        # Stopping early keeps the numbers from growing where the limits contradict each other.
        if has_contradiction(rows):
            return None
        rows = shortened(rows, middle)
    return None if has_contradiction(rows) else frozen(rows)


def has_contradiction(rows):
    """True if a column would have to be less than itself."""
    return any([row[at] < 0 for at, row in enumerate(rows)])


def shortened(rows, middle):
    """The limits, each lowered to what the two limits with the middle column tell."""
    through = rows[middle]
    return [[min(most, row[middle] + second) for most, second in zip(row, through)] for row in rows]


def frozen(rows):
    """The matrix with these rows."""
    return tuple([tuple(row) for row in rows])


def range_box(ranges):
    """The box of all points whose values lie in these ranges (lo, hi)."""
    if any([low > high for low, high in ranges]):
        return None
    ends = [(0, 0), *ranges]
    return frozen([
        [0 if i == j else high - low for j, (low, _) in enumerate(ends)]
        for i, (_, high) in enumerate(ends)
    ])


def bound(box, i, j, most):
    """The box of the points in which column i minus column j is at most this."""
    if box is None or most + box[j][i] < 0:
        return None
    if box[i][j] <= most:
        return box
    # In a closed matrix each way that became shorter uses the new limit once.
    behind = [most + second for second in box[j]]
    return frozen([
        [min(old, row[i] + second) for old, second in zip(row, behind)] for row in box
    ])


def join_boxes(a, b):
    """The least box that has all points of both."""
    if a is None or b is None:
        return b if a is None else a
    return frozen([[max(pair) for pair in zip(row, other)] for row, other in zip(a, b)])


def meet_boxes(a, b):
    """The box of the points that both have."""
    if a is None or b is None:
        return None
    return close([[min(pair) for pair in zip(row, other)] for row, other in zip(a, b)])


def is_inside(a, b):
    """True if each point of a is a point of b."""
    if a is None or b is None:
        return a is None
    return all([most <= other for row, others in zip(a, b) for most, other in zip(row, others)])


def has_point(box, point):
    """True if the point is a point of the box."""
    if box is None:
        return False
    values = (0, *point)
    return all([
        left - right <= most for left, row in zip(values, box) for right, most in zip(values, row)
    ])


def range_of(box, i):
    """The pair of the least and the greatest value of column i."""
    return (-box[0][i], box[i][0])


def least_point(box):
    """The point that has the least value in every column, None for None."""
    return None if box is None else tuple([-most for most in box[0][1:]])


def greatest_point(box):
    """The point that has the greatest value in every column, None for None."""
    return None if box is None else tuple([row[0] for row in box[1:]])
