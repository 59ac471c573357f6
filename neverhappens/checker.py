"""Checks certificates: tuples of rows that lead to nothing outside them."""

from neverhappens.fitting import is_row
from neverhappens.leading import id_of, rows_led_to
from neverhappens.rules import Rules
from neverhappens.zones import is_inside


def accepts_rows(rules, rows):
    """True if a plain value is a certificate of the program of the rules."""
    if not isinstance(rows, tuple) or not all([is_row(rules, row) for row in rows]):
        return False
    boxes = {id_of(row): row[4] for row in rows}
    if len(boxes) != len(rows):
        return False
    return all([is_inside(row[4], boxes.get(id_of(row))) for row in rows_led_to(rules, rows)])


def accepts(program, rows):
    """True if a plain value is a certificate of the program."""
    return accepts_rows(Rules(program), rows)
