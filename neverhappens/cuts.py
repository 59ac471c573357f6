"""Cuts boxes to the points in which forms and expressions have certain values."""

from neverhappens.boxes import free_column, shift_column
from neverhappens.forms import (
    difference_columns, difference_of_forms, form_of, form_times, range_of_form, used_columns,
)
from neverhappens.values import evaluate
from neverhappens.zones import bound, join_boxes


def at_most(box, form, most):
    """The box where the form may stand for a number that is at most this."""
    if box is None:
        return None
    coefficients, low, _ = form
    used = used_columns(form)
    if len(used) == 1:
        column = used[0]
        factor = coefficients[column - 1]
        limit = (most - low) // abs(factor)
        return bound(box, column, 0, limit) if factor > 0 else bound(box, 0, column, limit)
    pair = difference_columns(form)
    if pair is not None:
        return bound(box, pair[0], pair[1], most - low)
    # A form without columns has the range low..high.
    return None if range_of_form(form, box)[0] > most else box


def at_least(box, form, least):
    """The box where the form may stand for a number that is at least this."""
    return at_most(box, form_times(form, -1), -least)


def equal_to(box, form, value):
    """The box where the form may stand for this number."""
    return at_least(at_most(box, form, value), form, value)


def assign(box, i, form, lo, hi):
    """The box after column i has become a number of lo..hi for which the form stands."""
    if box is None:
        return None
    coefficients, low, high = form
    used = used_columns(form)
    if len(used) == 1 and coefficients[used[0] - 1] == 1:
        if used[0] == i:
            shifted = shift_column(box, i, low, high)
            return bound(bound(shifted, i, 0, hi), 0, i, -lo)
        freed = free_column(box, i, lo, hi)
        return bound(bound(freed, i, used[0], high), used[0], i, -low)
    least, greatest = range_of_form(form, box)
    return free_column(box, i, max(least, lo), min(greatest, hi))


def assume(expression, want, known, names, box):
    """The box where a flag expression may have the value that is wanted."""
    if box is None:
        return None
    word = expression[0]
    if word == "not":
        return assume(expression[1], not want, known, names, box)
    if word == "and" or word == "or":
        return assume_pair(expression, want, known, names, box)
    if word in ("<", "<=", "==", "!="):
        left = form_of(expression[1], known, names, box)
        right = form_of(expression[2], known, names, box)
        return compare(word, want, box, difference_of_forms(left, right))
    return box if evaluate(expression, known) == want else None


def assume_pair(expression, want, known, names, box):
    """The box where an `and` or an `or` may have the value that is wanted."""
    word, left, right = expression
    first = assume(left, want, known, names, box)
    # One operand is enough for an `and` to fail and for an `or` to hold.
    if want == (word == "or"):
        return join_boxes(first, assume(right, want, known, names, box))
    return assume(right, want, known, names, first)


def compare(word, want, box, form):
    """The box where the comparison of the form with 0 may have the value that is wanted."""
    if word == "<":
        return at_most(box, form, -1) if want else at_least(box, form, 0)
    if word == "<=":
        return at_most(box, form, 0) if want else at_least(box, form, 1)
    if want == (word == "=="):
        return equal_to(box, form, 0)
    return join_boxes(at_most(box, form, -1), at_least(box, form, 1))
