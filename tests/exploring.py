"""Goes through the runs of a program with all inputs, or with some where there are too many."""

from neverhappens.describing import rows_of_run
from neverhappens.plain import Machine
from neverhappens.scopes import Scope
from neverhappens.statements import list_statements
from tests.following import pointed

MANY = 8


def function_of(program, name):
    return next(function for function in program[3] if function[0] == name)


def statement_at(program, name, place):
    return list_statements(function_of(program, name)[4])[place][0]


def at(program, inputs, visits):
    """The run with these inputs after so many visits."""
    machine = Machine(program, inputs)
    for _ in range(visits):
        machine.visit()
    return machine


def cells(program, machine):
    """The inputs that are tried for the next visit; (None,) if it reads none."""
    outcome = machine.outcome()
    if outcome[0] != "going":
        return ()
    _, name, place = outcome
    statement = statement_at(program, name, place)
    if statement[0] != "input":
        return (None,)
    kind = Scope(program, function_of(program, name)).kinds[statement[1]]
    if kind[0] == "flag":
        return (0, 1)
    size = kind[2] - kind[1] + 1
    return range(size) if size <= MANY else (0, 1, size // 2, size - 2, size - 1)


def levels(program, visits, most=10 ** 6):
    """For each number of visits the list of triples (inputs, machine, begins) that differ.

    The begins tell for each frame after how many visits it has begun, and in which state, since its
    entry depends on it. A run that is over stands only in the level in which it has ended. It stops
    where a level has more than so many members.
    """
    level = [((), at(program, [], 0), ((0, None),))]
    found = []
    for count in range(visits + 1):
        found.append(level)
        following = {}
        for inputs, machine, begins in level:
            for cell in cells(program, machine):
                told = inputs if cell is None else (*inputs, cell)
                after = at(program, list(told), count + 1)
                since = begun(begins, after.state(), count + 1)
                following.setdefault((after.outcome(), after.state(), since), (told, after, since))
        level = list(following.values())
        if not level or len(level) > most:
            break
    return found


def begun(begins, state, visits):
    """When the frames have begun that there are in the state after these visits."""
    depth = len(state[0])
    return (*begins, (visits, state)) if depth > len(begins) else begins[:depth]


def longest(found):
    """The inputs of the runs of which no longer one is known."""
    last = {}
    for level in found:
        for inputs, _, _ in level:
            last[inputs] = True
            # The same run stands in each level with the inputs that it had read until then.
    return [inputs for inputs in last
            if not any(other != inputs and other[:len(inputs)] == inputs for other in last)]


def met(rules, inputs, visits):
    """What a run comes to, as triples (row, whole visits before it, those of its frame).

    The rows have single points; for an exit row its end counts.
    """
    program = rules.program
    told = rows_of_run(program, list(inputs), visits)
    machine = at(program, list(inputs), 0)
    if not told:
        return [(rules.start(), 0, 0)]
    begins, stack, found = ((0, None),), [], []
    for count, state in enumerate(told):
        row = pointed(state)
        stack = [*stack[:len(begins) - 1], row]
        found.append((row, count, count - begins[-1][0]))
        found += ended(rules, stack, begins, count + 1)
        machine.visit()
        begins = begun(begins, machine.state(), count + 1)
    return found


def ended(rules, stack, begins, visits):
    """What `met` tells of the ends of frames to which a visit may lead."""
    rows = list(rules.moves(stack[-1]))
    found = []
    if rules.called(stack[-1]) is not None:
        # A called function without statements ends at once.
        ends = [row for row in rows if is_exit(rules, row)]
        found += [(row, visits, 0) for row in ends]
        rows = [led for row in ends for led in rules.backs(stack[-1], row)]
    for level in reversed(range(len(stack))):
        ends = [row for row in rows if is_exit(rules, row)]
        found += [(row, visits, visits - begins[level][0]) for row in ends]
        rows = [led for row in ends for led in rules.backs(stack[level - 1], row)] if level else []
    return found


def is_exit(rules, row):
    return row[2] == rules.layouts[row[0]].exit


class Seen:
    """What all runs of a program come to with few visits, and the least numbers of visits.

    `depth` is the number of visits up to which all runs were followed; it may be less than asked.
    """

    def __init__(self, rules, visits, most):
        program = rules.program
        found = levels(program, visits, most)
        self.depth = len(found) - 1 if cells_left(program, found[-1]) else visits
        self.faults, self.places, self.states = {}, {}, {}
        self.rows, self.frames, self.ends = {}, {}, {}
        for count, level in enumerate(found):
            for _, machine, _ in level:
                outcome = machine.outcome()
                if outcome[0] == "fault":
                    self.faults.setdefault(outcome[1:], count)
                elif outcome[0] == "going":
                    self.places.setdefault(outcome[1:], count + 1)
                    self.states.setdefault(outcome[1:], []).append((count + 1, machine))
        for inputs in longest(found):
            for row, whole, own in met(rules, inputs, self.depth):
                lower(self.rows, row[:4], whole)
                lower(self.frames, row[:4], own)
                if is_exit(rules, row):
                    lower(self.ends, row[0], whole)


def cells_left(program, level):
    """True if a run of a level is not over."""
    return any(machine.outcome()[0] == "going" for _, machine, _ in level)


def lower(numbers, key, number):
    """Keeps the less of the numbers."""
    numbers[key] = min(number, numbers.get(key, number))
