"""Sums: numbers that depend on the columns of a box.

A sum is a pair: the tuple of pairs (column, factor), by columns and without factors that are 0, and
a number that is added.
"""

from neverhappens.zones import bound, range_of


def number_sum(number):
    """The sum that is this number."""
    return ((), number)


def column_sum(column):
    """The sum that is the value of a column."""
    return (((column, 1),), 0)


def is_number(total):
    """True if the sum depends on no column."""
    return total[0] == ()


def plus(left, right):
    """The first sum plus the second one."""
    factors = dict(left[0])
    for column, factor in right[0]:
        factors[column] = factors.get(column, 0) + factor
    terms = sorted([(column, factor) for column, factor in factors.items() if factor != 0])
    return (tuple(terms), left[1] + right[1])


def times(total, number):
    """The sum times a number."""
    if number == 0:
        return number_sum(0)
    terms = tuple([(column, number * factor) for column, factor in total[0]])
    return (terms, number * total[1])


def minus(left, right):
    """The first sum minus the second one."""
    return plus(left, times(right, -1))


def difference_of(terms):
    """The triple (i, j, factor) if the terms are a factor above 0 times column i minus column j."""
    if len(terms) != 2 or terms[0][1] != -terms[1][1]:
        return None
    (first, factor), (second, _) = terms
    return (first, second, factor) if factor > 0 else (second, first, -factor)


def is_sharp(total):
    """True if a box can tell exactly where the sum is at most a number."""
    return len(total[0]) < 2 or difference_of(total[0]) is not None


def term_reach(box, term):
    """The pair of the least and the greatest value of a term."""
    column, factor = term
    ends = [factor * end for end in range_of(box, column)]
    return (min(ends), max(ends))


def reach(box, total):
    """A pair of numbers between which the sum lies in the box."""
    ends = [term_reach(box, term) for term in total[0]]
    low = total[1] + sum([end for end, _ in ends])
    return (low, total[1] + sum([end for _, end in ends]))


def cut_term(box, term, most):
    """The box where a term is at most this."""
    column, factor = term
    limit = most // abs(factor)
    return bound(box, column, 0, limit) if factor > 0 else bound(box, 0, column, limit)


def cut_sum(box, total, most):
    """The box where the sum may be at most this; what is left is exact if the sum is sharp."""
    terms, added = total
    limit = most - added
    pair = difference_of(terms)
    if pair is not None:
        return bound(box, pair[0], pair[1], limit // pair[2])
    if terms == ():
        return box if limit >= 0 else None
    for term in terms:
        if box is None:
            return None
        others = sum([term_reach(box, other)[0] for other in terms if other != term])
        box = cut_term(box, term, limit - others)
    return box
