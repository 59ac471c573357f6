"""Slow ways to find tables and what they lead to, by the rules for single rows alone."""

from neverhappens.landmarks import is_head, landmarks, round_box
from neverhappens.zones import is_inside, join_boxes


def slow_leads(rules, rows):
    """Triples (row that is led to, the row that leads there, the exit row that it needs or None)."""
    found = []
    for row in rows:
        found += [(led, row, None) for led in rules.moves(row)]
        found += [(led, row, other) for other in rows for led in rules.backs(row, other)]
    return found


def order_of(program, row):
    """By what rows are sorted."""
    names = [function[0] for function in program[3]]
    return (names.index(row[0]), row[2], repr(row[1]), repr(row[3]))


def slow_sorted(program, rows):
    return tuple(sorted(rows, key=lambda row: order_of(program, row)))


def slow_lower(rules, rows, rounded=False):
    """What the rows lead to; with the boxes at heads rounded once if this is asked for."""
    boxes = {}
    for row in [rules.start(), *(led for led, _, _ in slow_leads(rules, rows))]:
        boxes[row[:4]] = join_boxes(boxes.get(row[:4]), row[4])
    found = []
    for name, box in boxes.items():
        layout = rules.layouts[name[0]]
        if rounded and is_head(layout, name[2]):
            ranges = layout.exit_ranges if name[2] == layout.exit else layout.ranges
            box = round_box(box, ranges, landmarks(layout))
        found.append((*name, box))
    return slow_sorted(rules.program, found)


def slow_first(rules, most=400):
    """The first table: all that is led to again and again, from no rows at all."""
    table = ()
    while True:
        grown = slow_lower(rules, table, True)
        if grown == table or len(grown) > most:
            return grown
        table = grown


def is_covered(row, table):
    """True if the table has a row with this id whose box contains the row's box."""
    return any(row[:4] == other[:4] and is_inside(row[4], other[4]) for other in table)


def ids_of(rows):
    return [row[:4] for row in rows]
