"""Describes the visits of a run by entries, keys and points."""

from neverhappens.keys import number_key
from neverhappens.layouts import Layout
from neverhappens.walking import Walker


def values_of(walker, names):
    """The tuple of the values that these names have in the top frame."""
    own = walker.frames[-1].own
    shared = walker.memory.shared
    return tuple([shared[name] if name in shared else own[name] for name in names])


class Begun:
    """What belongs to a frame as long as it exists: its entry, fixed records and fixed numbers."""

    def __init__(self, walker, layout):
        values = values_of(walker, layout.entry_discrete)
        records = walker.memory.records
        self.layout = layout
        self.entry, self.fixed = number_key(
            layout.program, layout.entry_kinds, values, records, ()
        )
        self.numbers = values_of(walker, layout.entry_large)


def row_of_visit(walker, begun):
    """The tuple that describes the visit which comes next."""
    layout = begun.layout
    values = values_of(walker, layout.discrete)
    records = walker.memory.records
    key, _ = number_key(layout.program, layout.discrete_kinds, values, records, begun.fixed)
    point = values_of(walker, layout.large) + begun.numbers
    return (layout.name, begun.entry, walker.frames[-1].place, key, point)


def rows_of_run(program, inputs, visits):
    """The list of the tuples that describe the first visits of a run."""
    layouts = {function[0]: Layout(program, function[0]) for function in program[3]}
    walker = Walker(program, inputs)
    begun = []
    rows = []
    while len(rows) < visits and walker.outcome()[0] == "going":
        # A visit that puts a frame on top ends none below it, so the number of frames tells which
        # ones are still the same.
        del begun[len(walker.frames):]
        if len(begun) < len(walker.frames):
            begun.append(Begun(walker, layouts[walker.frames[-1].scope.name]))
        rows.append(row_of_visit(walker, begun[-1]))
        walker.visit()
    return rows
