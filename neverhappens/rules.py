"""The rules by which rows lead to rows."""

from neverhappens.calls import back, enter
from neverhappens.keys import number_key
from neverhappens.kinds import start_value
from neverhappens.layouts import Layout
from neverhappens.steps import arrive, step
from neverhappens.zones import range_box


class Rules:
    """What the rows of a program lead to.

    A row is a tuple (function, entry, place, key, box).
    """

    def __init__(self, program):
        self.program = program
        self.layouts = {function[0]: Layout(program, function[0]) for function in program[3]}

    def start(self):
        """The row of the start of a run."""
        layout = self.layouts["main"]
        starts = {name: start_value(kind) for name, kind in layout.kinds.items()}
        values = tuple([starts[name] for name in layout.entry_discrete])
        entry, _ = number_key(self.program, layout.entry_kinds, values, (), ())
        key = (tuple([starts[name] for name in layout.discrete]), ())
        columns = (*layout.large, *layout.entry_large)
        box = range_box(tuple([(starts[name], starts[name]) for name in columns]))
        return ("main", entry, *arrive(layout, 0, 0, key, box))

    def called(self, row):
        """The layout of the function that the row calls, None if it is not at a call."""
        layout = self.layouts[row[0]]
        if row[2] == layout.exit:
            return None
        statement = layout.graph[row[2]][0]
        return self.layouts[statement[2]] if statement[0] == "call" else None

    def members(self, row):
        """The pair of the possible faults of a row at a call and of the members of its cases."""
        function, _, place, key, box = row
        return enter(self.layouts[function], self.called(row), place, key, box)

    def visit(self, row):
        """The pair of the possible faults of a row and of the rows that one visit leads to."""
        function, entry, place, key, box = row
        layout = self.layouts[function]
        if place == layout.exit:
            return (), ()
        callee = self.called(row)
        if callee is None:
            faults, triples = step(layout, len(entry[1]), place, key, box)
            return faults, tuple([(function, entry, *triple) for triple in triples])
        faults, members = self.members(row)
        return faults, tuple([(callee.name, *member[:4]) for member in members])

    def faults(self, row):
        """The tuple of the faults that a visit of the row may have."""
        return self.visit(row)[0]

    def moves(self, row):
        """The tuple of the rows that one visit leads to, without the ends of called functions."""
        return self.visit(row)[1]

    def behind(self, row, member, exit_row):
        """The row behind a call after the end of the frame of this member, None without a point."""
        function, entry, place, key, _ = row
        layout, callee = self.layouts[function], self.called(row)
        _, _, _, exit_key, exit_box = exit_row
        triple = back(layout, len(entry[1]), place, key, member, callee, exit_key, exit_box)
        return None if triple is None else (function, entry, *triple)

    def backs(self, row, exit_row):
        """The tuple of the row behind a call that has ended with the exit row, if there is one."""
        callee = self.called(row)
        if callee is None or exit_row[0] != callee.name or exit_row[2] != callee.exit:
            return ()
        for member in self.members(row)[1]:
            # Members differ in what small parameters are given, so no two have the same entry.
            if member[0] == exit_row[1]:
                found = self.behind(row, member, exit_row)
                return () if found is None else (found,)
        return ()
