"""What a visit of a statement that is no call does to a row."""

from neverhappens.boxes import add_columns, pick_columns
from neverhappens.cases import Spot, list_cases
from neverhappens.keys import number_key
from neverhappens.kinds import is_large, start_value
from neverhappens.layouts import RESULT


def exit_columns(layout):
    """The columns that are kept at the end of a frame; a large result is one behind all others."""
    count = len(layout.ranges)
    kept = [count + 1 if name == RESULT else layout.large.index(name) + 1
            for name in layout.exit_large]
    return tuple(kept + list(range(len(layout.large) + 1, count + 1)))


def end_triple(layout, fixed, case):
    """The triple of the end of a frame.

    In the case a discrete result is among the values, a large one is a column behind the others.
    """
    known, records, box = case
    values = tuple([known[name] for name in layout.exit_discrete])
    key, _ = number_key(layout.program, layout.exit_kinds, values, records, tuple(range(fixed)))
    return (layout.exit, key, pick_columns(box, exit_columns(layout)))


def arrive(layout, fixed, place, key, box):
    """The triple for coming to a place; at the exit that of the end of the frame."""
    if place != layout.exit:
        return (place, key, box)
    known = dict(zip(layout.discrete, key[0]))
    if layout.result is not None:
        value = start_value(layout.result)
        known[RESULT] = value
        if is_large(layout.result):
            box = add_columns(box, ((value, value),))
    return end_triple(layout, fixed, (known, key[1], box))


def go_on(layout, fixed, place, case):
    """The triple of a case after which the frame goes on at a place."""
    known, records, box = case
    values = tuple([known[name] for name in layout.discrete])
    key, _ = number_key(layout.program, layout.discrete_kinds, values, records, tuple(range(fixed)))
    return arrive(layout, fixed, place, key, box)


def return_step(spot, fixed, expression):
    """The faults and the triples of a return."""
    layout = spot.layout
    if expression is None:
        return (), (end_triple(layout, fixed, spot.with_box(spot.box)),)
    column = None
    box = spot.box
    if is_large(layout.result):
        column = len(layout.ranges) + 1
        box = add_columns(box, (layout.result[1:],))
    outside, given = spot.given(expression, layout.result, column, box)
    ends = [end_triple(layout, fixed, spot.with_value(RESULT, *case)) for case in given]
    return ("range",) if outside else (), tuple(ends)


def branch_step(spot, fixed, test, places):
    """The faults and the triples of an if or while, with the places for True and for False."""
    found = []
    for want, place in zip((True, False), places):
        box = spot.assumed(test, want)
        if box is not None:
            found.append(go_on(spot.layout, fixed, place, spot.with_box(box)))
    return (), tuple(found)


def step(layout, fixed, place, key, box):
    """The pair of the possible faults and of the triples to which a visit of a place may lead."""
    statement, after, other = layout.graph[place]
    spot = Spot(layout, key, box)
    if statement[0] == "return":
        return return_step(spot, fixed, statement[1])
    if statement[0] == "test":
        return branch_step(spot, fixed, statement[1], (after, other))
    faults, cases = list_cases(spot, statement)
    nexts = [go_on(layout, fixed, after, case) for case in cases if case[2] is not None]
    return tuple(faults), tuple(nexts)
