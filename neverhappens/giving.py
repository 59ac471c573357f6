"""Gives expressions to variables, fields and parameters, as far as keys and boxes tell their values."""

from neverhappens.cuts import assign, assume, at_least, at_most, equal_to
from neverhappens.forms import form_of
from neverhappens.kinds import is_large, kind_values
from neverhappens.values import evaluate


def may_be_outside(box, form, lo, hi):
    """True if the form may stand for a number outside lo..hi."""
    return at_most(box, form, lo - 1) is not None or at_least(box, form, hi + 1) is not None


def limited(box, form, lo, hi):
    """The box where the form may stand for a number of lo..hi."""
    return at_least(at_most(box, form, hi), form, lo)


def give(expression, kind, column, known, names, box):
    """The pair of whether a number may be out of range, and the list of the cases.

    The target has this kind, and this column if it is large. A case is a pair of the target's new
    value, None if it is large, and the box, which is not None.
    """
    outside = False
    if kind[0] == "ref":
        cases = [(evaluate(expression, known), box)]
    elif kind[0] == "flag":
        cases = [(value, assume(expression, value, known, names, box)) for value in (False, True)]
    else:
        _, lo, hi = kind
        form = form_of(expression, known, names, box)
        outside = may_be_outside(box, form, lo, hi)
        if is_large(kind):
            cases = [(None, assign(box, column, form, lo, hi))]
        else:
            cases = [(value, equal_to(box, form, value)) for value in kind_values(kind)]
    return outside, [case for case in cases if case[1] is not None]
