"""Reads the text of an expression.

It keeps the open brackets in a list: a text may open thousands of them before it turns out to be
no expression, which is deeper than functions may call each other.
"""

from neverhappens.words import is_name, number_of

OPERATORS = ("+", "-", "*", "<", "<=", "==", "!=", "same", "and", "or")
NEGATION = "(not "


def atom_of(text):
    """The expression that is a single word, or None."""
    if text == "true" or text == "false":
        return ("flag", text == "true")
    if text == "null":
        return ("null",)
    if is_name(text):
        return ("name", text)
    number = number_of(text)
    return None if number is None else ("num", number)


def open_brackets(text, at, pending):
    """Adds what the brackets from this place on open, and returns the place behind them."""
    while text.startswith("(", at):
        if text.startswith(NEGATION, at):
            pending.append(("not",))
            at += len(NEGATION)
        else:
            pending.append(())
            at += 1
    return at


def word_end(text, at):
    """The place behind the word that begins at this place."""
    while at < len(text) and text[at] not in " ()":
        at += 1
    return at


def close_brackets(text, at, pending, operand):
    """Puts an operand into the brackets that it completes.

    Returns the largest expression that is complete and the place behind it; the expression is
    None if a closing bracket is missing.
    """
    while pending and pending[-1]:
        if not text.startswith(")", at):
            return None, at
        operand = (*pending.pop(), operand)
        at += 1
    return operand, at


def operator_end(text, at):
    """The place behind the operator, with the spaces around it, that begins here, or None."""
    end = text.find(" ", at + 1)
    if end < 0 or text[at] != " " or text[at + 1:end] not in OPERATORS:
        return None
    return end + 1


def scan_expression(text):
    """The expression with this text, or None if there is none."""
    # A pending bracket is a tuple of the parts read so far: (), an operator and its left operand,
    # or the word of a negation.
    pending = []
    at = 0
    while True:
        at = open_brackets(text, at, pending)
        end = word_end(text, at)
        atom = atom_of(text[at:end])
        if atom is None:
            return None
        operand, at = close_brackets(text, end, pending, atom)
        if operand is None or not pending:
            return operand if at == len(text) else None
        end = operator_end(text, at)
        if end is None:
            return None
        pending[-1] = (text[at + 1:end - 1], operand)
        at = end
