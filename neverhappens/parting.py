"""Parts runs by what expressions are in them.

The values of variables are told by a dict: numbers, flags and references, and sums for what has a
large kind.
"""

from neverhappens.errors import NeverError
from neverhappens.kinds import is_large, kind_values
from neverhappens.sums import is_number, minus, number_sum, plus
from neverhappens.values import evaluate

COMPARISONS = ("<", "<=", "==", "!=")
# Each case is a class of runs, or several; a hunt gives up long before there are so many.
MOST_CASES = 10000


class TooManyCases(NeverError):
    """A visit that parts runs into more cases than a hunt looks at."""

    def __init__(self):
        super().__init__("there are too many cases")


def sum_of(expression, values, limits):
    """The pair of the limits and of the sum that a number expression is."""
    word = expression[0]
    if word == "num":
        return limits, number_sum(expression[1])
    if word == "name":
        value = values[expression[1]]
        return limits, value if isinstance(value, tuple) else number_sum(value)
    limits, left = sum_of(expression[1], values, limits)
    limits, right = sum_of(expression[2], values, limits)
    if word == "*":
        return limits.with_product(left, right)
    return limits, plus(left, right) if word == "+" else minus(left, right)


def compared(expression, values, limits):
    """The cases (truth, limits) of a comparison, as few as boxes can tell apart."""
    word = expression[0]
    limits, left = sum_of(expression[1], values, limits)
    limits, right = sum_of(expression[2], values, limits)
    total = minus(left, right)
    if word == "<":
        parts = [(True, limits.at_most(total, -1)), (False, limits.at_least(total, 0))]
    elif word == "<=":
        parts = [(True, limits.at_most(total, 0)), (False, limits.at_least(total, 1))]
    else:
        same = word == "=="
        parts = [
            (same, limits.within(total, 0, 0)),
            (not same, limits.at_most(total, -1)), (not same, limits.at_least(total, 1)),
        ]
    return [(truth, part) for truth, part in parts if part is not None]


def cases_of(expression, values, limits):
    """The cases (value, limits) of a flag expression or a reference.

    Runs of different cases differ in how the comparisons come out, but not all that differ in this
    are parted: what does not matter for the value is left open.
    """
    word = expression[0]
    if word in COMPARISONS:
        return compared(expression, values, limits)
    if word == "not":
        return [(not truth, part) for truth, part in cases_of(expression[1], values, limits)]
    if word == "and" or word == "or":
        found = []
        for truth, part in cases_of(expression[1], values, limits):
            if truth == (word == "or"):
                found.append((truth, part))
            else:
                found.extend(cases_of(expression[2], values, part))
        return checked_cases(found)
    return [(evaluate(expression, values), limits)]


def checked_cases(cases):
    """The list of cases, if there are not too many."""
    if len(cases) > MOST_CASES:
        raise TooManyCases()
    return cases


def number_cases(kind, total, limits):
    """The cases (value, limits) of giving a sum to a target of this number kind."""
    if is_large(kind):
        cases = [(total, limits.within(total, kind[1], kind[2]))]
    elif is_number(total):
        # Nothing has to be parted where the value is known.
        number = total[1]
        cases = [(number, limits if kind[1] <= number <= kind[2] else None)]
    else:
        cases = [(value, limits.within(total, value, value)) for value in kind_values(kind)]
    return [(value, part) for value, part in cases if part is not None]


def given(expression, kind, values, limits):
    """What comes of giving an expression to a target of this kind.

    Returns the pair of the list of the limits where it is out of range, and of the list of the
    cases (value, limits).
    """
    if kind[0] != "num":
        return [], cases_of(expression, values, limits)
    limits, total = sum_of(expression, values, limits)
    return limits.outside(total, kind[1], kind[2]), number_cases(kind, total, limits)


def numbers_given(params, arguments, values, case):
    """What comes of giving the number arguments to their parameters in a case of the others."""
    _, limits = case
    asked = []
    for (name, kind), argument in zip(params, arguments):
        if kind[0] == "num":
            limits, total = sum_of(argument, values, limits)
            asked.append((name, kind, total))
    outside = []
    cases = [(case[0], limits)]
    for name, kind, total in asked:
        outside.extend(limits.outside(total, kind[1], kind[2]))
        cases = [
            ({**known, name: value}, part)
            for known, before in cases for value, part in number_cases(kind, total, before)
        ]
    return outside, cases


def all_given(params, arguments, values, limits):
    """What comes of giving arguments to parameters, for each way the comparisons come out.

    Each member of the list is a pair like that of `given`; the values are dicts of parameters.
    """
    cases = [({}, limits)]
    for (name, kind), argument in zip(params, arguments):
        if kind[0] != "num":
            cases = checked_cases([
                ({**known, name: value}, part)
                for known, before in cases
                for value, part in cases_of(argument, values, before)
            ])
    return [numbers_given(params, arguments, values, case) for case in cases]
