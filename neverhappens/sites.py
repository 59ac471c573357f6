"""Sites: the faults that the statements of a program can have."""

from neverhappens.kinds import is_large
from neverhappens.scopes import Scope
from neverhappens.statements import list_statements

# The faults that a statement can have whatever the kinds are, in their order.
FAULTS = {
    "free": ("null", "gone"),
    "load": ("null", "gone"),
    "store": ("null", "gone"),
    "get": ("index",),
    "put": ("index", "range"),
    "assert": ("assert",),
}


def is_number_kind(kind):
    """True for a number kind, False for another one and for None."""
    return kind is not None and kind[0] == "num"


def gives_number(scope, statement):
    """True if the statement gives a number to a variable, a field, a parameter or as a result."""
    word = statement[0]
    if word == "set":
        return is_number_kind(scope.kinds[statement[1]])
    if word == "store":
        return is_number_kind(scope.field_kind(statement[1], statement[2]))
    if word == "call":
        return any([is_number_kind(kind) for _, kind in scope.functions[statement[2]][1]])
    return word == "return" and is_number_kind(scope.result)


def faults_of(scope, statement):
    """The tuple of the faults that a statement can have."""
    own = FAULTS.get(statement[0], ())
    return (*own, "range") if gives_number(scope, statement) else own


def sites(program):
    """The list of all sites (function, place, fault)."""
    found = []
    for function in program[3]:
        scope = Scope(program, function)
        for place, (statement, _) in enumerate(list_statements(function[4])):
            found.extend([(function[0], place, fault) for fault in faults_of(scope, statement)])
    return found


def is_plain(program):
    """True if the program has no arrays and no large kinds."""
    _, arrays, shared, functions = program
    kinds = [kind for _, kind in shared]
    for _, params, result, own, _ in functions:
        kinds.extend([kind for _, kind in (*params, *own)])
        kinds.extend([] if result is None else [result])
    return arrays == () and not any([is_large(kind) for kind in kinds])
