"""Tells which plain values are rows of a program."""

from neverhappens.keys import is_key
from neverhappens.zones import close, is_inside, range_box


def is_integer(value):
    """True for an integer; True and False are none."""
    return isinstance(value, int) and not isinstance(value, bool)


def is_box(value, ranges):
    """True if a plain value is a closed matrix inside the box of these ranges."""
    size = len(ranges) + 1
    if not isinstance(value, tuple) or len(value) != size:
        return False
    if not all([isinstance(row, tuple) and len(row) == size for row in value]):
        return False
    if not all([is_integer(number) for row in value for number in row]):
        return False
    return close(value) == value and is_inside(value, range_box(ranges))


def key_parts(layout, place):
    """The pair of the kinds of a key's values at a place and of the ranges of its box."""
    if place == layout.exit:
        return layout.exit_kinds, layout.exit_ranges
    return layout.discrete_kinds, layout.ranges


def has_first_kinds(records, entered):
    """True if the first records are of the record kinds of those of the entry."""
    return [record[0] for record in records[:len(entered)]] == [record[0] for record in entered]


def is_row(rules, value):
    """True if a plain value is a row that fits the program of the rules."""
    if not isinstance(value, tuple) or len(value) != 5:
        return False
    name, entry, place, key, box = value
    # Only a string is looked up: other values may be nested too deep for that.
    if not isinstance(name, str) or name not in rules.layouts:
        return False
    layout = rules.layouts[name]
    if not is_integer(place) or not 0 <= place <= layout.exit:
        return False
    kinds, ranges = key_parts(layout, place)
    if not is_key(rules.program, layout.entry_kinds, entry, 0):
        return False
    if not is_key(rules.program, kinds, key, len(entry[1])):
        return False
    return has_first_kinds(key[1], entry[1]) and is_box(box, ranges)
