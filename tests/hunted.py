"""Counts the classes of runs of point 85, run by run, for programs in which no kind has many values."""

from neverhappens.scopes import Scope
from neverhappens.values import evaluate
from tests.exploring import at, function_of, statement_at

COMPARISONS = ("<", "<=", "==", "!=")


def signs(expression, values):
    """How the comparisons in an expression come out, in order."""
    if expression[0] in COMPARISONS:
        left, right = (evaluate(operand, values) for operand in expression[1:])
        return [(left > right) - (left < right)]
    if expression[0] in ("not", "and", "or"):
        return [sign for operand in expression[1:] for sign in signs(operand, values)]
    return []


def given(statement, scope, values):
    """The pairs of a kind and an expression that is given to it."""
    word = statement[0]
    if word == "set":
        return [(scope.kinds[statement[1]], statement[2])]
    if word == "store":
        return [(scope.field_kind(statement[1], statement[2]), statement[3])]
    if word == "call":
        return list(zip([kind for _, kind in scope.functions[statement[2]][1]], statement[3]))
    return [(scope.result, statement[1])] if word == "return" and statement[1] is not None else []


def is_small(kind):
    return kind[0] == "flag" or (kind[0] == "num" and kind[2] - kind[1] <= 7)


def mark(program, machine, cell, fault):
    """What the visit adds to what tells classes apart."""
    _, name, place = machine.outcome()
    statement = statement_at(program, name, place)
    scope = Scope(program, function_of(program, name))
    frames, shared, _, _ = machine.state()
    values = dict(zip([shared_name for shared_name, _ in program[2]], shared))
    own = [other for other in scope.kinds if other not in values]
    values.update(zip(own, frames[-1][2]))
    found = [name, place, fault]
    if statement[0] == "input" and is_small(scope.kinds[statement[1]]):
        found.append(cell)
    # Where a fault keeps the expressions from being looked at, they tell nothing.
    if fault not in ("null", "gone"):
        pairs = given(statement, scope, values)
        expressions = [expression for _, expression in pairs]
        if statement[0] in ("if", "while", "assert"):
            expressions = [statement[1]]
        found.append(tuple(sign for expression in expressions for sign in signs(expression, values)))
        if fault is None:
            found.append(tuple(evaluate(expression, values) for kind, expression in pairs if is_small(kind)))
    return tuple(found)


def cells(program, machine):
    outcome = machine.outcome()
    if outcome[0] != "going":
        return ()
    statement = statement_at(program, *outcome[1:])
    if statement[0] != "input":
        return (None,)
    kind = Scope(program, function_of(program, outcome[1])).kinds[statement[1]]
    return (0, 1) if kind[0] == "flag" else range(kind[2] - kind[1] + 1)


def count_classes(program, visits, most):
    """The numbers of classes with 1, 2, .. visits, and the faults with the least visits.

    None if there are more runs than can be looked at.
    """
    runs = [((), ())]
    counts, faults = [], {}
    for count in range(visits):
        following = []
        for inputs, marks in runs:
            machine = at(program, list(inputs), count)
            for cell in cells(program, machine):
                told = inputs if cell is None else (*inputs, cell)
                after = at(program, list(told), count + 1)
                outcome = after.outcome()
                fault = outcome[3] if outcome[0] == "fault" else None
                if fault is not None:
                    faults.setdefault(outcome[1:], count + 1)
                following.append((told, (*marks, mark(program, machine, cell, fault))))
        counts.append(len({marks for _, marks in following}))
        runs = following
        if len(runs) > most:
            return None
    return counts, faults

