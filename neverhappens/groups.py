"""Groups of runs that have made the same visits, and agree in all that is not large."""

from neverhappens.boxes import pick_columns
from neverhappens.kinds import is_large, start_value
from neverhappens.limits import NO_COLUMNS, Limits
from neverhappens.sums import number_sum


def start_worth(kind):
    """What a variable of this kind has at the start, a sum if it is large."""
    value = start_value(kind)
    return number_sum(value) if is_large(kind) else value


class Group:
    """The frames (function, place, values), the globals, arrays and records of a group of runs.

    The elements of arrays are sums. No part of a group is ever changed.
    """

    def __init__(self, frames, shared, arrays, records, limits):
        self.frames = frames
        self.shared = shared
        self.arrays = arrays
        self.records = records
        self.limits = limits

    def with_limits(self, limits):
        """The group with other limits."""
        return Group(self.frames, self.shared, self.arrays, self.records, limits)

    def with_frames(self, frames):
        """The group with other frames."""
        return Group(frames, self.shared, self.arrays, self.records, self.limits)

    def at_place(self, place):
        """The group with its top frame at another place."""
        name, _, own = self.frames[-1]
        return self.with_frames((*self.frames[:-1], (name, place, own)))

    def with_value(self, target, value):
        """The group with another value of a global or a variable of the top frame."""
        if target in self.shared:
            shared = {**self.shared, target: value}
            return Group(self.frames, shared, self.arrays, self.records, self.limits)
        name, place, own = self.frames[-1]
        return self.with_frames((*self.frames[:-1], (name, place, {**own, target: value})))

    def with_record(self, index, record):
        """The group with another record in the place of one, or behind all of them."""
        records = (*self.records[:index], record, *self.records[index + 1:])
        return Group(self.frames, self.shared, self.arrays, records, self.limits)

    def with_element(self, array, index, value):
        """The group with another element of an array."""
        cells = self.arrays[array]
        arrays = {**self.arrays, array: (*cells[:index], value, *cells[index + 1:])}
        return Group(self.frames, self.shared, arrays, self.records, self.limits)

    def outline(self):
        """What tells groups apart whose runs go on differently; None if it cannot be told."""
        if not self.limits.is_exact():
            return None
        numbers = {}
        frames = [(name, place, renumbered(list(own.values()), numbers))
                  for name, place, own in self.frames]
        shared = renumbered(list(self.shared.values()), numbers)
        arrays = [renumbered(cells, numbers) for cells in self.arrays.values()]
        # Columns on which no value depends any more make no difference.
        box = pick_columns(self.limits.box, tuple(numbers))
        return (tuple(frames), shared, tuple(arrays), self.records, box)


def renumbered(values, numbers):
    """The values with new numbers for the columns, which are added to the dict of numbers."""
    found = []
    for value in values:
        if isinstance(value, tuple):
            for column, _ in value[0]:
                numbers.setdefault(column, len(numbers) + 1)
            terms = sorted([(numbers[column], factor) for column, factor in value[0]])
            value = (tuple(terms), value[1])
        found.append(value)
    return tuple(found)


def first_frame(layout, params):
    """A frame at its beginning, with these values of the parameters."""
    names = list(layout.kinds)[len(layout.program[2]) + len(layout.params):]
    own = {name: start_worth(layout.kinds[name]) for name in names}
    return (layout.name, 0, {**params, **own})


def start_group(program, layouts):
    """The group of all runs before their first visit."""
    shared = {name: start_worth(kind) for name, kind in program[2]}
    arrays = {}
    for name, length, lo, hi in program[1]:
        arrays[name] = (number_sum(start_value(("num", lo, hi))),) * length
    frames = (first_frame(layouts["main"], {}),)
    return settled(layouts, Group(frames, shared, arrays, (), Limits(NO_COLUMNS, (), (), ())))


def end_frame(layouts, group, value):
    """The group behind the end of its top frame with this value."""
    found = group.with_frames(group.frames[:-1])
    if found.frames == ():
        return found
    name, place, _ = found.frames[-1]
    call, after, _ = layouts[name].graph[place]
    found = found.at_place(after)
    return found if call[1] is None else found.with_value(call[1], value)


def settled(layouts, group):
    """The group without the frames that have no statement left."""
    while group.frames != ():
        name, place, _ = group.frames[-1]
        layout = layouts[name]
        if place != layout.exit:
            break
        worth = None if layout.result is None else start_worth(layout.result)
        group = end_frame(layouts, group, worth)
    return group
