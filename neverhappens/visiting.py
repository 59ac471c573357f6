"""What a visit does to a group of runs, and into which groups it parts them.

Each effect takes a spot and the parts of a statement. It returns the pair of the list of the faults
and of the list of the groups behind the visit. A fault is a pair of its name and of the list of the
limits of the runs that have it; the runs of one pair belong to one class.
"""

from neverhappens.groups import end_frame, first_frame, settled
from neverhappens.kinds import is_large, kind_values, start_value
from neverhappens.parting import all_given, cases_of, given, number_cases, sum_of
from neverhappens.scopes import array_named, fields_named


class Spot:
    """A group that is not over, and the statement at which it stands."""

    def __init__(self, layouts, group):
        name, place, own = group.frames[-1]
        self.layouts = layouts
        self.group = group
        self.layout = layouts[name]
        self.step, self.after, self.other = self.layout.graph[place]
        self.worths = {**group.shared, **own}

    def moved(self, group, place):
        """The group with its top frame at another place, if it has a statement left there."""
        return settled(self.layouts, group.at_place(place))

    def valued(self, target, cases):
        """The groups behind the statement in which the target has a value of the cases."""
        return [
            self.moved(self.group.with_limits(limits).with_value(target, value), self.after)
            for value, limits in cases
        ]


def faults_at(word, regions):
    """The list with the fault of this name, if there are runs that have it."""
    return [(word, regions)] if regions else []


def visit_set(spot, target, expression):
    """The variable becomes the value of the expression."""
    outside, cases = given(expression, spot.layout.kinds[target], spot.worths, spot.group.limits)
    return faults_at("range", outside), spot.valued(target, cases)


def visit_input(spot, target):
    """The variable becomes an input."""
    kind = spot.layout.kinds[target]
    limits = spot.group.limits
    if is_large(kind):
        behind, total = limits.with_column_read(kind[1], kind[2])
        return [], spot.valued(target, [(total, behind)])
    cases = [(value, limits.with_read(cell)) for cell, value in enumerate(kind_values(kind))]
    return [], spot.valued(target, cases)


def visit_new(spot, target):
    """The variable refers to a new record."""
    name = spot.layout.kinds[target][1]
    fields = [start_value(kind) for _, kind in fields_named(spot.layout.program, name)]
    index = len(spot.group.records)
    found = spot.group.with_record(index, (name, True, tuple(fields))).with_value(target, index)
    return [], [spot.moved(found, spot.after)]


def reference_faults(spot, holder):
    """The fault of looking at what a variable refers to, if there is one."""
    index = spot.worths[holder]
    if index is None:
        return [("null", [spot.group.limits])]
    return [] if spot.group.records[index][1] else [("gone", [spot.group.limits])]


def visit_free(spot, holder):
    """The record of the variable is given back."""
    faults = reference_faults(spot, holder)
    if faults:
        return faults, []
    index = spot.worths[holder]
    gone = (spot.group.records[index][0], False, ())
    return [], [spot.moved(spot.group.with_record(index, gone), spot.after)]


def field_of(spot, holder, field):
    """The pair of the position and the kind of a field of the variable's record."""
    fields = fields_named(spot.layout.program, spot.layout.kinds[holder][1])
    at = [name for name, _ in fields].index(field)
    return at, fields[at][1]


def visit_load(spot, target, holder, field):
    """The variable becomes the value of a field."""
    faults = reference_faults(spot, holder)
    if faults:
        return faults, []
    at, _ = field_of(spot, holder, field)
    value = spot.group.records[spot.worths[holder]][2][at]
    return [], spot.valued(target, [(value, spot.group.limits)])


def visit_store(spot, holder, field, expression):
    """The field becomes the value of the expression."""
    faults = reference_faults(spot, holder)
    if faults:
        return faults, []
    index = spot.worths[holder]
    name, live, fields = spot.group.records[index]
    at, kind = field_of(spot, holder, field)
    outside, cases = given(expression, kind, spot.worths, spot.group.limits)
    groups = []
    for value, limits in cases:
        record = (name, live, (*fields[:at], value, *fields[at + 1:]))
        stored = spot.group.with_limits(limits).with_record(index, record)
        groups.append(spot.moved(stored, spot.after))
    return faults_at("range", outside), groups


def look_up(spot, array, expression):
    """The faults of an index, and the cases (index, limits) of the others."""
    length = array_named(spot.layout.program, array)[1]
    limits, total = sum_of(expression, spot.worths, spot.group.limits)
    outside = limits.outside(total, 0, length - 1)
    parts = [(index, limits.within(total, index, index)) for index in range(length)]
    return faults_at("index", outside), [case for case in parts if case[1] is not None]


def visit_get(spot, target, array, expression):
    """The variable becomes an element."""
    faults, places = look_up(spot, array, expression)
    kind = spot.layout.kinds[target]
    cases = []
    for index, limits in places:
        cases.extend(number_cases(kind, spot.group.arrays[array][index], limits))
    return faults, spot.valued(target, cases)


def visit_put(spot, array, place, expression):
    """An element becomes the value of the expression."""
    faults, places = look_up(spot, array, place)
    _, _, lo, hi = array_named(spot.layout.program, array)
    groups = []
    for index, before in places:
        limits, total = sum_of(expression, spot.worths, before)
        faults.extend(faults_at("range", limits.outside(total, lo, hi)))
        inside = limits.within(total, lo, hi)
        if inside is not None:
            put = spot.group.with_limits(inside).with_element(array, index, total)
            groups.append(spot.moved(put, spot.after))
    return faults, groups


def visit_call(spot, _, name, arguments):
    """The called function begins."""
    callee = spot.layouts[name]
    faults = []
    groups = []
    for outside, cases in all_given(callee.params, arguments, spot.worths, spot.group.limits):
        faults.extend(faults_at("range", outside))
        for params, limits in cases:
            # The parameters may have been found in another order than they are declared in.
            own = {param: params[param] for param, _ in callee.params}
            frames = (*spot.group.frames, first_frame(callee, own))
            begun = spot.group.with_limits(limits).with_frames(frames)
            groups.append(settled(spot.layouts, begun))
    return faults, groups


def visit_return(spot, expression):
    """The frame ends with the value of the expression."""
    outside, cases = [], [(None, spot.group.limits)]
    if expression is not None:
        outside, cases = given(expression, spot.layout.result, spot.worths, spot.group.limits)
    groups = []
    for value, limits in cases:
        ended = end_frame(spot.layouts, spot.group.with_limits(limits), value)
        groups.append(settled(spot.layouts, ended))
    return faults_at("range", outside), groups


def visit_test(spot, expression):
    """The frame goes on by what the expression of an if or a while is."""
    cases = cases_of(expression, spot.worths, spot.group.limits)
    return [], [
        spot.moved(spot.group.with_limits(limits), spot.after if truth else spot.other)
        for truth, limits in cases
    ]


def visit_go(spot):
    """The frame goes on behind a while."""
    return [], [spot.moved(spot.group, spot.after)]


def visit_assert(spot, expression):
    """The frame goes on if the expression holds."""
    faults = []
    groups = []
    for truth, limits in cases_of(expression, spot.worths, spot.group.limits):
        if truth:
            groups.append(spot.moved(spot.group.with_limits(limits), spot.after))
        else:
            faults.append(("assert", [limits]))
    return faults, groups


VISITS = {
    "set": visit_set,
    "input": visit_input,
    "new": visit_new,
    "free": visit_free,
    "load": visit_load,
    "store": visit_store,
    "get": visit_get,
    "put": visit_put,
    "call": visit_call,
    "return": visit_return,
    "test": visit_test,
    "go": visit_go,
    "assert": visit_assert,
}


def visit_group(layouts, group):
    """The faults that runs of a group have with their next visit, and the groups of the others."""
    spot = Spot(layouts, group)
    effect = VISITS[spot.step[0]]
    parts = spot.step[1:]
    return effect(spot, *parts)
