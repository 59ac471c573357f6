"""Goes through the runs of a program with all inputs, or with some where there are too many."""

from neverhappens.plain import Machine
from neverhappens.scopes import Scope
from neverhappens.statements import list_statements

MANY = 8


def function_of(program, name):
    return next(function for function in program[3] if function[0] == name)


def statement_at(program, name, place):
    return list_statements(function_of(program, name)[4])[place][0]


def at(program, inputs, visits):
    """The run with these inputs after so many visits."""
    machine = Machine(program, inputs)
    for _ in range(visits):
        machine.visit()
    return machine


def cells(program, machine):
    """The inputs that are tried for the next visit; (None,) if it reads none."""
    outcome = machine.outcome()
    if outcome[0] != "going":
        return ()
    _, name, place = outcome
    statement = statement_at(program, name, place)
    if statement[0] != "input":
        return (None,)
    kind = Scope(program, function_of(program, name)).kinds[statement[1]]
    if kind[0] == "flag":
        return (0, 1)
    size = kind[2] - kind[1] + 1
    return range(size) if size <= MANY else (0, 1, size // 2, size - 2, size - 1)


def levels(program, visits, most=10 ** 6):
    """For each number of visits the list of pairs (inputs, machine) of states that differ.

    A run that is over stands only in the level in which it has ended. It stops where a level would
    have more than so many states.
    """
    level = [((), at(program, [], 0))]
    found = []
    for count in range(visits + 1):
        found.append(level)
        following = {}
        for inputs, machine in level:
            for cell in cells(program, machine):
                told = inputs if cell is None else (*inputs, cell)
                after = at(program, list(told), count + 1)
                following.setdefault((after.outcome(), after.state()), (told, after))
        level = list(following.values())
        if not level or len(level) > most:
            break
    return found
