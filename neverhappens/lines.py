"""Reads single lines of a function, without their indentation.

Each function returns None where the text is not the text of such a line.
"""

from neverhappens.scanning import scan_expression
from neverhappens.words import declaration_of, is_name, kind_of


def params_of(text):
    """The tuple of the parameters with this text."""
    if text == "":
        return ()
    params = [declaration_of(part) for part in text.split(", ")]
    return None if None in params else tuple(params)


def head_of(text):
    """The triple of the name, the parameters and the result of a function's first line."""
    if not text.startswith("def "):
        return None
    name, _, rest = text.removeprefix("def ").partition("(")
    inside, bracket, tail = rest.partition(")")
    params = params_of(inside)
    if not is_name(name) or bracket == "" or params is None:
        return None
    if tail == "":
        return name, params, None
    result = kind_of(tail.removeprefix(": ")) if tail.startswith(": ") else None
    return None if result is None else (name, params, result)


def call_of(target, text):
    """The call with this text whose result goes to the target."""
    name, _, rest = text.partition("(")
    if not is_name(name) or not rest.endswith(")"):
        return None
    inside = rest[:-1]
    arguments = [scan_expression(part) for part in inside.split(", ")] if inside else []
    return None if None in arguments else ("call", target, name, tuple(arguments))


def element_of(text):
    """The pair of the array and the index of an element with this text."""
    name, _, rest = text.partition("[")
    if not is_name(name) or not rest.endswith("]"):
        return None
    index = scan_expression(rest[:-1])
    return None if index is None else (name, index)


def field_of(text):
    """The pair of the variable and the field with this text."""
    name, _, field = text.partition(".")
    return (name, field) if is_name(name) and is_name(field) else None


def store_of(text, worth):
    """The statement that gives a field or an element, which is the text, the worth."""
    field = field_of(text)
    if field is not None:
        return ("store", *field, worth)
    element = element_of(text)
    return None if element is None else ("put", *element, worth)


def fetch_of(target, text):
    """The statement that gives the target what the text tells, which is no expression."""
    if text == "input" or text == "new":
        return (text, target)
    field = field_of(text)
    if field is not None:
        return ("load", target, *field)
    element = element_of(text)
    return call_of(target, text) if element is None else ("get", target, *element)


def assignment_of(left, right):
    """The statement with the two texts on the left and on the right of the sign."""
    worth = scan_expression(right)
    if is_name(left):
        return fetch_of(left, right) if worth is None else ("set", left, worth)
    return None if worth is None else store_of(left, worth)


def statement_of(text):
    """The statement with this line; an if or while is told without its bodies."""
    if text == "break":
        return ("break",)
    if text == "return":
        return ("return", None)
    left, sign, right = text.partition(" = ")
    if sign:
        return assignment_of(left, right)
    word, _, rest = text.partition(" ")
    if word == "free":
        return ("free", rest) if is_name(rest) else None
    if word in ("return", "if", "while", "assert"):
        expression = scan_expression(rest)
        return None if expression is None else (word, expression)
    return call_of(None, text)
