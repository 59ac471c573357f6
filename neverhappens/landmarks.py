"""Landmarks: the numbers to which boxes are rounded, so that they cannot grow too often."""

from neverhappens.statements import list_statements, parts_of
from neverhappens.zones import close


def expressions_of(statement):
    """The list of the expressions in a statement's own line."""
    found = []
    for role, part in parts_of(statement):
        if role == "expression":
            found.append(part)
        elif role == "arguments":
            found.extend(part)
    return found


def numbers_in(expression):
    """The list of the numbers that are written in an expression."""
    word = expression[0]
    if word == "num":
        return [expression[1]]
    if word in ("flag", "null", "name"):
        return []
    return [number for operand in expression[1:] for number in numbers_in(operand)]


def written_numbers(layout):
    """The list of the numbers from which the landmarks of a function are made."""
    found = []
    for statement, _ in list_statements(layout.body):
        for expression in expressions_of(statement):
            found.extend(numbers_in(expression))
    for kind in (*list(layout.kinds.values()), layout.result):
        if kind is not None and kind[0] == "num":
            found.extend(kind[1:])
    for array in layout.program[1]:
        found.extend(array[1:])
    return found


def landmarks(layout):
    """The tuple of the landmarks of a function, in ascending order."""
    found = {}
    # The numbers that 0 gives are -1, 0 and 1.
    for number in [0, *written_numbers(layout)]:
        for near in (number - 1, number, number + 1):
            found[near] = True
            found[-near] = True
    return tuple(sorted(found))


def least_mark(marks, number):
    """The least landmark that is not less than the number, or None."""
    low = 0
    high = len(marks)
    while low < high:
        middle = (low + high) // 2
        if marks[middle] < number:
            low = middle + 1
        else:
            high = middle
    return marks[low] if low < len(marks) else None


def rounded(number, widest, marks):
    """The least landmark that is not less than the number, or what is possible at all."""
    mark = least_mark(marks, number)
    return widest if mark is None else min(mark, widest)


def round_box(box, ranges, marks):
    """The box with each limit rounded up to a landmark, as far as the ranges (lo, hi) allow."""
    if box is None:
        return None
    ends = [(0, 0), *ranges]
    return close([
        [0 if i == j else rounded(box[i][j], high - low, marks) for j, (low, _) in enumerate(ends)]
        for i, (_, high) in enumerate(ends)
    ])


def is_head(layout, place):
    """True for the place where frames begin, the places of while statements and the exit."""
    return place == 0 or place == layout.exit or place in layout.heads
