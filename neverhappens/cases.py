"""What a visit of a statement does to a row, for each case that boxes and keys tell apart.

Each effect takes a spot and the parts of the statement. It returns the pair of the list of the
faults that are possible, and of the list of the cases. A case is a triple of the dict of the
discrete names' values, the records and the box, which may be None.
"""

from neverhappens.boxes import free_column
from neverhappens.cuts import assume
from neverhappens.forms import form_of
from neverhappens.giving import give, limited, may_be_outside
from neverhappens.kinds import is_large, kind_values, start_value
from neverhappens.scopes import array_named, fields_named


class Spot:
    """The layout, the values of the discrete names, the records and the box of a row."""

    def __init__(self, layout, key, box):
        self.layout = layout
        self.known = dict(zip(layout.discrete, key[0]))
        self.records = key[1]
        self.box = box

    def form(self, expression, box):
        """The form of a number expression."""
        return form_of(expression, self.known, self.layout.large, box)

    def assumed(self, expression, want):
        """The box where a flag expression may have the value that is wanted."""
        return assume(expression, want, self.known, self.layout.large, self.box)

    def given(self, expression, kind, column, box):
        """What `give` tells of a target of this kind with this column."""
        return give(expression, kind, column, self.known, self.layout.large, box)

    def column(self, name):
        """The column of a name, None if it is discrete."""
        large = self.layout.large
        return large.index(name) + 1 if name in large else None

    def with_value(self, name, value, box):
        """The case in which a discrete name has another value."""
        return ({**self.known, name: value}, self.records, box)

    def with_record(self, index, record, box):
        """The case in which a record is replaced."""
        records = (*self.records[:index], record, *self.records[index + 1:])
        return (self.known, records, box)

    def with_box(self, box):
        """The case in which nothing but the box is changed."""
        return (self.known, self.records, box)


def set_effect(spot, target, expression):
    """The variable becomes the value of the expression."""
    kind = spot.layout.kinds[target]
    outside, given = spot.given(expression, kind, spot.column(target), spot.box)
    faults = ["range"] if outside else []
    # The value that is told for a large name is not looked at.
    return faults, [spot.with_value(target, value, box) for value, box in given]


def any_value(spot, target, box):
    """The cases in which the variable becomes any value of its kind."""
    kind = spot.layout.kinds[target]
    if is_large(kind):
        return [spot.with_box(free_column(box, spot.column(target), kind[1], kind[2]))]
    return [spot.with_value(target, value, box) for value in kind_values(kind)]


def input_effect(spot, target):
    """The variable becomes any value."""
    return [], any_value(spot, target, spot.box)


def new_effect(spot, target):
    """The variable refers to a new record."""
    name = spot.layout.kinds[target][1]
    fields = [start_value(kind) for _, kind in fields_named(spot.layout.program, name)]
    known = {**spot.known, target: len(spot.records)}
    return [], [(known, (*spot.records, (name, True, tuple(fields))), spot.box)]


def reference_faults(spot, holder):
    """The list with the fault of looking at what a variable refers to, if there is one."""
    index = spot.known[holder]
    if index is None:
        return ["null"]
    return [] if spot.records[index][1] else ["gone"]


def free_effect(spot, holder):
    """The record of the variable is given back."""
    faults = reference_faults(spot, holder)
    if faults:
        return faults, []
    index = spot.known[holder]
    return [], [spot.with_record(index, (spot.records[index][0], False, ()), spot.box)]


def field_of(spot, holder, field):
    """The pair of the position and the kind of a field of the variable's record."""
    fields = fields_named(spot.layout.program, spot.layout.kinds[holder][1])
    names = [name for name, _ in fields]
    at = names.index(field)
    return at, fields[at][1]


def load_effect(spot, target, holder, field):
    """The variable becomes the value of a field."""
    faults = reference_faults(spot, holder)
    if faults:
        return faults, []
    at, _ = field_of(spot, holder, field)
    value = spot.records[spot.known[holder]][2][at]
    return [], [spot.with_value(target, value, spot.box)]


def store_effect(spot, holder, field, expression):
    """The field becomes the value of the expression."""
    faults = reference_faults(spot, holder)
    if faults:
        return faults, []
    index = spot.known[holder]
    name, live, fields = spot.records[index]
    at, kind = field_of(spot, holder, field)
    # No field has a large kind, so there is no column.
    outside, given = spot.given(expression, kind, None, spot.box)
    cases = []
    for value, box in given:
        changed = (*fields[:at], value, *fields[at + 1:])
        cases.append(spot.with_record(index, (name, live, changed), box))
    return ["range"] if outside else [], cases


def look_up(spot, array, expression):
    """The list of the faults of an index, and the box where it is an index of the array."""
    last = array_named(spot.layout.program, array)[1] - 1
    form = spot.form(expression, spot.box)
    faults = ["index"] if may_be_outside(spot.box, form, 0, last) else []
    return faults, limited(spot.box, form, 0, last)


def get_effect(spot, target, array, expression):
    """The variable becomes any element."""
    faults, box = look_up(spot, array, expression)
    return faults, any_value(spot, target, box)


def put_effect(spot, array, place, expression):
    """Some element becomes the value of the expression."""
    faults, box = look_up(spot, array, place)
    if box is None:
        return faults, []
    _, _, lo, hi = array_named(spot.layout.program, array)
    form = spot.form(expression, box)
    if may_be_outside(box, form, lo, hi):
        faults.append("range")
    return faults, [spot.with_box(limited(box, form, lo, hi))]


def go_effect(spot):
    """A break changes nothing."""
    return [], [spot.with_box(spot.box)]


def assert_effect(spot, test):
    """What the expression may hold for goes on."""
    faults = [] if spot.assumed(test, False) is None else ["assert"]
    return faults, [spot.with_box(spot.assumed(test, True))]


CASES = {
    "set": set_effect,
    "input": input_effect,
    "new": new_effect,
    "free": free_effect,
    "load": load_effect,
    "store": store_effect,
    "get": get_effect,
    "put": put_effect,
    "go": go_effect,
    "assert": assert_effect,
}


def list_cases(spot, statement):
    """The faults and the cases of a statement that leads to one place alone, no call or return."""
    effect = CASES[statement[0]]
    parts = statement[1:]
    return effect(spot, *parts)
