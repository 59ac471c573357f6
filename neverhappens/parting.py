"""Parts runs by what expressions are in them.

The values of variables are told by a dict: numbers, flags and references, and sums for what has a
large kind.
"""

from neverhappens.kinds import is_large, kind_values
from neverhappens.sums import is_number, minus, number_sum, plus
from neverhappens.values import apply, evaluate

COMPARISONS = ("<", "<=", "==", "!=")


def sum_of(expression, values, limits):
    """The pair of the limits and of the sum that a number expression is."""
    word = expression[0]
    if word == "num":
        return limits, number_sum(expression[1])
    if word == "name":
        value = values[expression[1]]
        return limits, value if isinstance(value, tuple) else number_sum(value)
    limits, left = sum_of(expression[1], values, limits)
    limits, right = sum_of(expression[2], values, limits)
    if word == "*":
        return limits.with_product(left, right)
    return limits, plus(left, right) if word == "+" else minus(left, right)


def compared(expression, values, limits):
    """The cases (truth, limits) of a comparison: one for less, for equal and for greater."""
    limits, left = sum_of(expression[1], values, limits)
    limits, right = sum_of(expression[2], values, limits)
    total = minus(left, right)
    found = []
    for sign, part in (
        (-1, limits.at_most(total, -1)), (0, limits.within(total, 0, 0)),
        (1, limits.at_least(total, 1)),
    ):
        if part is not None:
            found.append((apply(expression[0], sign, 0), part))
    return found


def truths(expression, values, limits):
    """The cases (truth, limits) of a flag expression, one for each way its comparisons come out."""
    word = expression[0]
    if word in COMPARISONS:
        return compared(expression, values, limits)
    if word == "not":
        return [(not truth, part) for truth, part in truths(expression[1], values, limits)]
    if word == "and" or word == "or":
        return [
            (apply(word, first, second), part)
            for first, between in truths(expression[1], values, limits)
            for second, part in truths(expression[2], values, between)
        ]
    return [(evaluate(expression, values), limits)]


def number_cases(kind, total, limits):
    """The cases (value, limits) of giving a sum to a target of this number kind."""
    if is_large(kind):
        cases = [(total, limits.within(total, kind[1], kind[2]))]
    elif is_number(total):
        # Nothing has to be parted where the value is known.
        number = total[1]
        cases = [(number, limits if kind[1] <= number <= kind[2] else None)]
    else:
        cases = [(value, limits.within(total, value, value)) for value in kind_values(kind)]
    return [(value, part) for value, part in cases if part is not None]


def discrete_cases(expression, kind, values, limits):
    """The cases (value, limits) of giving a flag expression or a reference to a target."""
    if kind[0] == "flag":
        return truths(expression, values, limits)
    return [(evaluate(expression, values), limits)]


def given(expression, kind, values, limits):
    """What comes of giving an expression to a target of this kind.

    Returns the pair of the list of the limits where it is out of range, and of the list of the
    cases (value, limits).
    """
    if kind[0] != "num":
        return [], discrete_cases(expression, kind, values, limits)
    limits, total = sum_of(expression, values, limits)
    return limits.outside(total, kind[1], kind[2]), number_cases(kind, total, limits)


def numbers_given(params, arguments, values, case):
    """What comes of giving the number arguments to their parameters in a case of the others."""
    _, limits = case
    asked = []
    for (name, kind), argument in zip(params, arguments):
        if kind[0] == "num":
            limits, total = sum_of(argument, values, limits)
            asked.append((name, kind, total))
    outside = []
    cases = [(case[0], limits)]
    for name, kind, total in asked:
        outside.extend(limits.outside(total, kind[1], kind[2]))
        cases = [
            ({**known, name: value}, part)
            for known, before in cases for value, part in number_cases(kind, total, before)
        ]
    return outside, cases


def all_given(params, arguments, values, limits):
    """What comes of giving arguments to parameters, for each way the comparisons come out.

    Each member of the list is a pair like that of `given`; the values are dicts of parameters.
    """
    cases = [({}, limits)]
    for (name, kind), argument in zip(params, arguments):
        if kind[0] != "num":
            cases = [
                ({**known, name: value}, part)
                for known, before in cases
                for value, part in discrete_cases(argument, kind, values, before)
            ]
    return [numbers_given(params, arguments, values, case) for case in cases]
