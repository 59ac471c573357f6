"""The values of expressions."""


def evaluate(expression, values):
    """The value of an expression, where values is a dict from its variables to their values."""
    word = expression[0]
    if word == "num" or word == "flag":
        return expression[1]
    if word == "null":
        return None
    if word == "name":
        return values[expression[1]]
    left = evaluate(expression[1], values)
    if word == "not":
        return not left
    return apply(word, left, evaluate(expression[2], values))


def apply(word, left, right):
    """The value of an operator with these operands."""
    if word == "+":
        return left + right
    if word == "-":
        return left - right
    if word == "*":
        return left * right
    if word == "<":
        return left < right
    if word == "<=":
        return left <= right
    if word == "and":
        return left and right
    if word == "or":
        return left or right
    # References are null or the numbers of their records, so `same` compares like `==`.
    return left != right if word == "!=" else left == right
