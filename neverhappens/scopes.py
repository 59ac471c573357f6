"""What the names mean that a function can use."""


def find_declared(section, name):
    """The member of a section of a program that has this name."""
    for declared in section:
        if declared[0] == name:
            return declared
    return None


def fields_named(program, name):
    """The fields of the record kind with this name."""
    return find_declared(program[0], name)[1]


def array_named(program, name):
    """The array of the program with this name."""
    return find_declared(program[1], name)


def function_named(program, name):
    """The function of the program with this name."""
    return find_declared(program[3], name)


def visible_kinds(program, function):
    """A dict from the visible names of a function to their kinds, in order."""
    return dict([*program[2], *function[1], *function[3]])


class Scope:
    """The names that one function of a program can use."""

    def __init__(self, program, function):
        self.name = function[0]
        self.result = function[2]
        self.kinds = visible_kinds(program, function)
        # For each record kind a dict from its fields to their kinds.
        self.records = {record[0]: dict(record[1]) for record in program[0]}
        self.arrays = {array[0]: array for array in program[1]}
        self.functions = {other[0]: other for other in program[3]}

    def declares(self, role, name):
        """True if the name is declared as a variable, an array or a function."""
        if role == "variable":
            return name in self.kinds
        if role == "array":
            return name in self.arrays
        return name in self.functions

    def field_kind(self, name, field):
        """The kind of a field of the record that a variable refers to, or None."""
        kind = self.kinds[name]
        return self.records[kind[1]].get(field) if kind[0] == "ref" else None
