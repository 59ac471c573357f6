"""What calls do to rows: how the called function begins, and what its end leads to."""

from neverhappens.boxes import add_columns, pick_columns, tie_boxes
from neverhappens.giving import give
from neverhappens.keys import (
    number_key, places_in_records, reference_places, translated, translated_record,
)
from neverhappens.kinds import is_large, start_value
from neverhappens.layouts import RESULT
from neverhappens.steps import arrive


def give_arguments(layout, callee, known, arguments, box):
    """Gives the arguments to the parameters.

    Returns the pair of whether one may be out of range, and the list of the cases: pairs of the
    dict of the parameters' values and the caller's box with a column for each large parameter.
    """
    outside = False
    cases = [({}, box)]
    for (name, kind), argument in zip(callee.params, arguments):
        found = []
        for given, wide in list(cases):
            if is_large(kind):
                wide = add_columns(wide, (kind[1:],))
            may_be, members = give(argument, kind, len(wide) - 1, known, layout.large, wide)
            outside = outside or may_be
            found.extend([({**given, name: value}, cut) for value, cut in members])
        cases = found
    return outside, cases


def numbers_from(first, count):
    """The tuple of so many numbers, one after the other."""
    return tuple(range(first, first + count))


def entry_columns(layout, callee):
    """The columns of the callee's large globals and parameters in the caller's widened box."""
    shared = len(layout.shared_large)
    params = len(callee.entry_large) - shared
    count = len(layout.ranges)
    return numbers_from(1, shared) + numbers_from(count + 1, params)


def first_box(layout, callee, wide):
    """The box with which the callee begins."""
    count = len(callee.entry_large)
    own = callee.large[count:]
    starts = [start_value(callee.kinds[name]) for name in own]
    box = pick_columns(wide, entry_columns(layout, callee))
    box = add_columns(box, tuple([(value, value) for value in starts]))
    return pick_columns(box, numbers_from(1, len(callee.large)) + numbers_from(1, count))


def enter_case(layout, callee, known, records, case):
    """The member of a case: how the callee begins, the caller's box and the links."""
    given, wide = case
    # A parameter may have the name of a local of the caller, but never that of a global.
    worths = {**known, **given}
    values = tuple([worths[name] for name in callee.entry_discrete])
    entry, links = number_key(callee.program, callee.entry_kinds, values, records, ())
    own = callee.discrete[len(callee.entry_discrete):]
    starts = [start_value(callee.kinds[name]) for name in own]
    key = ((*entry[0], *starts), entry[1])
    begin = arrive(callee, len(entry[1]), 0, key, first_box(layout, callee, wide))
    return (entry, *begin, wide, links)


def enter(layout, callee, place, key, box):
    """The pair of the possible faults of a call and of the members of its cases."""
    call = layout.graph[place][0]
    known = dict(zip(layout.discrete, key[0]))
    outside, cases = give_arguments(layout, callee, known, call[3], box)
    members = [enter_case(layout, callee, known, key[1], case) for case in cases]
    return ("range",) if outside else (), tuple(members)


def merged_records(places, records, numbers, exit_records):
    """The caller's records with those of the callee's end, which have these numbers there."""
    found = list(records)
    for number, record in zip(numbers, exit_records):
        changed = translated_record(record, places, numbers)
        if number < len(found):
            found[number] = changed
        else:
            found.append(changed)
    return tuple(found)


def key_behind(layout, fixed, target, key, links, callee, exit_key):
    """The caller's key behind a call."""
    records = key[1]
    numbers = links + numbers_from(len(records), len(exit_key[1]) - len(links))
    ended = translated(exit_key[0], reference_places(callee.exit_kinds), numbers)
    worths = dict(zip(layout.discrete, key[0]))
    for name, value in zip(callee.exit_discrete, ended):
        if name != RESULT:
            worths[name] = value
        elif target is not None:
            # The result comes last, so it also replaces what the callee left in a global.
            worths[target] = value
    values = tuple([worths[name] for name in layout.discrete])
    merged = merged_records(places_in_records(layout.program), records, numbers, exit_key[1])
    indexes = tuple(range(fixed))
    return number_key(layout.program, layout.discrete_kinds, values, merged, indexes)[0]


def box_behind(layout, target, wide, callee, exit_box):
    """The caller's box behind a call."""
    count = len(wide) - 1
    shared = len(layout.shared_large)
    new = numbers_from(count + 1, len(callee.exit_large))
    box = add_columns(wide, callee.exit_ranges[:len(new)])
    box = tie_boxes(box, exit_box, new + entry_columns(layout, callee))
    picked = [*new[:shared], *numbers_from(shared + 1, len(layout.ranges) - shared)]
    if target in layout.large:
        # A large result comes last, behind the globals.
        picked[layout.large.index(target)] = new[-1]
    return pick_columns(box, tuple(picked))


def back(layout, fixed, place, key, entered, callee, exit_key, exit_box):
    """The triple behind a call after the end of the callee's frame, None if there is no point."""
    call, after, _ = layout.graph[place]
    _, _, _, _, wide, links = entered
    box = box_behind(layout, call[1], wide, callee, exit_box)
    if box is None:
        return None
    behind = key_behind(layout, fixed, call[1], key, links, callee, exit_key)
    return arrive(layout, fixed, after, behind, box)
