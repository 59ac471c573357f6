"""Describes which names a function has, and of which kinds they are."""

from neverhappens.graphs import heads, nodes
from neverhappens.kinds import is_discrete, is_large
from neverhappens.scopes import function_named, visible_kinds
from neverhappens.statements import count_statements

# The key under which a result stands among the names; a reserved word, so that no name equals it.
RESULT = "result"


def discrete_names(kinds):
    """The tuple of the names that have a discrete kind."""
    return tuple([name for name in kinds if is_discrete(kinds[name])])


def large_names(kinds):
    """The tuple of the names that have a large kind."""
    return tuple([name for name in kinds if is_large(kinds[name])])


def kinds_of(names, kinds):
    """The tuple of the kinds of these names."""
    return tuple([kinds[name] for name in names])


def ranges_of(names, kinds):
    """The tuple of the ranges (lo, hi) of names that have number kinds."""
    return tuple([kinds[name][1:] for name in names])


class Layout:
    """Describes one function of a program."""

    def __init__(self, program, name):
        function = function_named(program, name)
        shared = dict(program[2])
        entry = dict([*program[2], *function[1]])
        last = dict(program[2])
        if function[2] is not None:
            last[RESULT] = function[2]
        self.program = program
        self.name = name
        self.params = function[1]
        self.result = function[2]
        self.body = function[4]
        self.exit = count_statements(function[4])
        self.graph = nodes(function)
        self.heads = heads(function)
        self.kinds = visible_kinds(program, function)
        self.discrete = discrete_names(self.kinds)
        self.large = large_names(self.kinds)
        self.entry_discrete = discrete_names(entry)
        self.entry_large = large_names(entry)
        self.exit_discrete = discrete_names(last)
        self.exit_large = large_names(last)
        # The globals come first among the names, so their columns are the same everywhere.
        self.shared_large = large_names(shared)
        self.discrete_kinds = kinds_of(self.discrete, self.kinds)
        self.entry_kinds = kinds_of(self.entry_discrete, entry)
        self.exit_kinds = kinds_of(self.exit_discrete, last)
        entry_ranges = ranges_of(self.entry_large, entry)
        self.ranges = ranges_of(self.large, self.kinds) + entry_ranges
        self.exit_ranges = ranges_of(self.exit_large, last) + entry_ranges
