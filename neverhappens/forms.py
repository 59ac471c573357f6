"""Forms: what number expressions may stand for, in terms of the columns of a box.

A form is a triple of the coefficients of the columns and of the ends of a range that is added.
"""

from neverhappens.zones import range_of


def constant_form(number, box):
    """The form that stands for this number."""
    return ((0,) * (len(box) - 1), number, number)


def column_form(column, box):
    """The form that stands for the values of a column."""
    coefficients = [1 if at == column else 0 for at in range(1, len(box))]
    return (tuple(coefficients), 0, 0)


def sum_of_forms(left, right):
    """The sum of two forms."""
    coefficients = [a + b for a, b in zip(left[0], right[0])]
    return (tuple(coefficients), left[1] + right[1], left[2] + right[2])


def form_times(form, number):
    """The form times a number."""
    coefficients = tuple([number * each for each in form[0]])
    ends = (number * form[1], number * form[2])
    return (coefficients, min(ends), max(ends))


def difference_of_forms(left, right):
    """The first form minus the second one."""
    return sum_of_forms(left, form_times(right, -1))


def used_columns(form):
    """The list of the columns whose coefficients are not 0."""
    return [at + 1 for at, each in enumerate(form[0]) if each != 0]


def difference_columns(form):
    """The pair (i, j) if the form is column i minus column j and a range, otherwise None."""
    used = used_columns(form)
    if sorted([form[0][column - 1] for column in used]) != [-1, 1]:
        return None
    first, second = used
    return (first, second) if form[0][first - 1] == 1 else (second, first)


def range_of_form(form, box):
    """The pair of the least and the greatest number that the box tells for the form."""
    coefficients, low, high = form
    pair = difference_columns(form)
    if pair is not None:
        i, j = pair
        return (low - box[j][i], high + box[i][j])
    for column in used_columns(form):
        ends = [coefficients[column - 1] * end for end in range_of(box, column)]
        low = low + min(ends)
        high = high + max(ends)
    return (low, high)


def occurs(names, expression):
    """True if one of the names occurs in the expression."""
    if expression[0] == "name":
        return expression[1] in names
    if expression[0] == "num":
        return False
    return any([occurs(names, operand) for operand in expression[1:]])


def form_of(expression, known, names, box):
    """The form of a number expression."""
    word = expression[0]
    if word == "num":
        return constant_form(expression[1], box)
    if word == "name":
        name = expression[1]
        if name in names:
            return column_form(names.index(name) + 1, box)
        return constant_form(known[name], box)
    left = form_of(expression[1], known, names, box)
    right = form_of(expression[2], known, names, box)
    if word == "+":
        return sum_of_forms(left, right)
    if word == "-":
        return difference_of_forms(left, right)
    # The form of an operand in which no name occurs stands for one number, its value.
    if not occurs(names, expression[1]):
        return form_times(right, left[1])
    if not occurs(names, expression[2]):
        return form_times(left, right[1])
    return product_form(left, right, box)


def product_form(left, right, box):
    """The form of a product in which both operands vary."""
    first = range_of_form(left, box)
    second = range_of_form(right, box)
    products = [a * b for a in first for b in second]
    return ((0,) * (len(box) - 1), min(products), max(products))
