"""The sorts of expressions, and the kinds that they fit.

A sort is a kind without a range: a number, a flag, a reference to a record kind, or null.
"""

NUMBER = ("num",)
TRUTH = ("flag",)
NULL = ("null",)


def sort_of_kind(kind):
    """The sort of a variable of this kind."""
    return NUMBER if kind[0] == "num" else kind


def is_reference(sort):
    """True for null and for references."""
    return sort is not None and (sort == NULL or sort[0] == "ref")


def sort_of_same(left, right):
    """The sort of `same` with operands of these sorts, or None."""
    if not is_reference(left) or not is_reference(right):
        return None
    return TRUTH if left == right or NULL in (left, right) else None


def sort_of_pair(word, left, right):
    """The sort of an operator with operands of these sorts, or None."""
    if word == "same":
        return sort_of_same(left, right)
    wanted = TRUTH if word == "and" or word == "or" else NUMBER
    if left != wanted or right != wanted:
        return None
    return NUMBER if word in ("+", "-", "*") else TRUTH


def sort_of(expression, kinds):
    """The sort of an expression, or None if it breaks the rules.

    The kinds are a dict from variables to their kinds, with all variables of the expression.
    """
    word = expression[0]
    if word in ("num", "flag", "null"):
        return (word,)
    if word == "name":
        return sort_of_kind(kinds[expression[1]])
    left = sort_of(expression[1], kinds)
    if word == "not":
        return TRUTH if left == TRUTH else None
    return sort_of_pair(word, left, sort_of(expression[2], kinds))


def fits(expression, kind, kinds):
    """True if the expression keeps the rules and a variable of this kind can have its value."""
    sort = sort_of(expression, kinds)
    if sort == NULL:
        return kind[0] == "ref"
    return sort == sort_of_kind(kind)
