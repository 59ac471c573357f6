"""Changes of the columns of boxes."""

from neverhappens.zones import close, frozen, range_box


def add_columns(box, ranges):
    """The box with one more column behind the others for each range (lo, hi)."""
    added = range_box(ranges)
    if box is None or added is None:
        return None
    # An old and a new column have nothing in common but what column 0 tells of each.
    rows = [[*row, *limits_over(row[0], added[0][1:])] for row in box]
    for row in added[1:]:
        rows.append([*limits_over(row[0], box[0]), *row[1:]])
    return frozen(rows)


def limits_over(first, limits):
    """The limits of two columns that meet in column 0 alone: one limit to it, and those from it."""
    return [first + second for second in limits]


def pick_columns(box, columns):
    """The box of these columns alone, in this order."""
    if box is None:
        return None
    picked = (0, *columns)
    return frozen([[box[i][j] for j in picked] for i in picked])


def with_column(box, i, above, below):
    """The box with other limits of column i.

    The limits are told for each column j: above those of column i minus column j, below those of
    column j minus column i. The limit of column i and itself is always 0.
    """
    rows = [[*row[:i], most, *row[i + 1:]] for row, most in zip(box, below)]
    rows[i] = [*above[:i], 0, *above[i + 1:]]
    return frozen(rows)


def free_column(box, i, lo, hi):
    """The box of the points that have any value of lo..hi in column i and equal a point elsewhere."""
    if box is None or lo > hi:
        return None
    above = [hi + most for most in box[0]]
    below = [row[0] - lo for row in box]
    return with_column(box, i, above, below)


def shift_column(box, i, low, high):
    """The box of the points that arise by adding a number of low..high to column i."""
    if box is None or low > high:
        return None
    above = [most + high for most in box[i]]
    below = [row[i] - low for row in box]
    return with_column(box, i, above, below)


def tie_boxes(box, other, columns):
    """The box of the points whose values in these columns are a point of the other box."""
    if box is None or other is None:
        return None
    tied = (0, *columns)
    rows = [list(row) for row in box]
    for i, row in zip(tied, other):
        for j, most in zip(tied, row):
            rows[i][j] = min(rows[i][j], most)
    return close(rows)
