"""Reads the texts of expressions, functions and programs."""

from neverhappens.blocks import FunctionReader, ProgramReader
from neverhappens.errors import BadText
from neverhappens.scanning import scan_expression


def read_with(reader, text):
    """Gives all lines of the text to the reader, and returns what it has built.

    Raises BadText if a line is refused, if the last line has no newline or if lines are missing.
    """
    lines = text.split("\n")
    rest = lines.pop()
    for at, line in enumerate(lines):
        if not reader.takes(line):
            raise BadText(at + 1)
    if rest != "" or not reader.done:
        raise BadText(len(lines) + 1)
    return reader.built()


def read_expression(text):
    """The expression with this text. Raises BadText(1) if there is none."""
    expression = scan_expression(text)
    if expression is None:
        raise BadText(1)
    return expression


def read_function(text):
    """The function with this text. Raises BadText."""
    return read_with(FunctionReader(), text)


def read_program(text):
    """The program with this text. Raises BadText."""
    return read_with(ProgramReader(), text)
