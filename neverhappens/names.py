"""Checks the names and kinds of a program."""

from neverhappens.errors import BadKind, Twice, Unknown, WrongKind
from neverhappens.kinds import is_large
from neverhappens.scopes import Scope
from neverhappens.sorts import NUMBER, TRUTH, fits, sort_of
from neverhappens.statements import list_statements, parts_of


def check_program(program):
    """Raises the error of the first rule that the program breaks."""
    top_names = list_top_names(program)
    check_different(top_names)
    check_records(program[0])
    check_arrays(program[1])
    records = [record[0] for record in program[0]]
    for name, kind in program[2]:
        check_kind(name, kind, records)
    for function in program[3]:
        check_head(function, top_names, records)
    for function in program[3]:
        check_body(Scope(program, function), function)
    check_main(program[3])


def list_top_names(program):
    """The names of the records, arrays, globals and functions, in this order."""
    return [declared[0] for section in program for declared in section]


def check_different(names):
    """Raises Twice for the first name that equals an earlier one."""
    for at, name in enumerate(names):
        if name in names[:at]:
            raise Twice(name)


def check_records(records):
    """Looks at the fields of all record kinds."""
    earlier = []
    for name, fields in records:
        check_fields(fields, earlier)
        earlier.append(name)


def check_fields(fields, earlier):
    """Looks at the fields of one record kind, with the names of the record kinds above it."""
    seen = []
    for field, kind in fields:
        if field in seen:
            raise Twice(field)
        seen.append(field)
        if is_large(kind):
            raise BadKind(field)
        check_kind(field, kind, earlier)


def check_arrays(arrays):
    """Looks at the lengths and ranges of all arrays."""
    for name, length, low, high in arrays:
        if length < 1 or low > high:
            raise BadKind(name)


def check_kind(name, kind, records):
    """Looks at the kind that this name has, where these record kinds may be used."""
    if kind[0] == "num" and kind[1] > kind[2]:
        raise BadKind(name)
    if kind[0] == "ref" and kind[1] not in records:
        raise Unknown(kind[1])


def check_head(function, top_names, records):
    """Looks at the parameters, the locals and the result of a function."""
    taken = list(top_names)
    for name, kind in (*function[1], *function[3]):
        if name in taken:
            raise Twice(name)
        taken.append(name)
        check_kind(name, kind, records)
    if function[2] is not None:
        check_kind(function[0], function[2], records)


def check_body(scope, function):
    """Looks at the statements of a function."""
    for place, (statement, in_while) in enumerate(list_statements(function[4])):
        check_statement(scope, place, statement, in_while)


def check_statement(scope, place, statement, in_while):
    """Looks at one statement, with its number and whether a while is around it."""
    for role, name in used_names(statement):
        if not scope.declares(role, name):
            raise Unknown(name)
    if statement[0] == "break":
        keeps = in_while
    else:
        keeps_rules = RULES[statement[0]]
        parts = statement[1:]
        keeps = keeps_rules(scope, *parts)
    if not keeps:
        raise WrongKind(scope.name, place)


def used_names(statement):
    """The pairs (role, name) of the names in a statement's own line, from left to right."""
    found = []
    for role, part in parts_of(statement):
        if role == "expression":
            found.extend(variables_in(part))
        elif role == "arguments":
            for argument in part:
                found.extend(variables_in(argument))
        elif role != "field" and role != "body":
            found.append((role, part))
    return found


def variables_in(expression):
    """The pairs ("variable", name) of the names in an expression, from left to right."""
    word = expression[0]
    if word == "name":
        return [("variable", expression[1])]
    if word in ("num", "flag", "null"):
        return []
    return [pair for operand in expression[1:] for pair in variables_in(operand)]


def is_number(scope, expression):
    """True if the expression keeps the rules and is a number."""
    return sort_of(expression, scope.kinds) == NUMBER


def is_truth(scope, expression):
    """True if the expression keeps the rules and is a flag."""
    return sort_of(expression, scope.kinds) == TRUTH


def set_keeps(scope, target, expression):
    """True if a set keeps the rules."""
    return fits(expression, scope.kinds[target], scope.kinds)


def input_keeps(scope, target):
    """True if an input keeps the rules."""
    return scope.kinds[target][0] != "ref"


def reference_keeps(scope, target):
    """True if a new or free keeps the rules."""
    return scope.kinds[target][0] == "ref"


def load_keeps(scope, target, holder, field):
    """True if a load keeps the rules."""
    # A variable that is no reference has no field, and then there is no kind that could be equal.
    return scope.kinds[target] == scope.field_kind(holder, field)


def store_keeps(scope, holder, field, expression):
    """True if a store keeps the rules."""
    kind = scope.field_kind(holder, field)
    return kind is not None and fits(expression, kind, scope.kinds)


def get_keeps(scope, target, array, index):
    """True if a get keeps the rules."""
    return scope.kinds[target] == ("num", *scope.arrays[array][2:]) and is_number(scope, index)


def put_keeps(scope, array, index, expression):
    """True if a put keeps the rules."""
    return is_number(scope, index) and is_number(scope, expression)


def call_keeps(scope, target, name, arguments):
    """True if a call keeps the rules."""
    called = scope.functions[name]
    params = called[1]
    if len(arguments) != len(params):
        return False
    for param, argument in zip(params, arguments):
        if not fits(argument, param[1], scope.kinds):
            return False
    return target is None or scope.kinds[target] == called[2]


def return_keeps(scope, expression):
    """True if a return keeps the rules."""
    if expression is None or scope.result is None:
        return expression is None and scope.result is None
    return fits(expression, scope.result, scope.kinds)


def if_keeps(scope, test, first, second):
    """True if the line of an if keeps the rules."""
    return is_truth(scope, test)


def while_keeps(scope, test, body):
    """True if the line of a while keeps the rules."""
    return is_truth(scope, test)


def check_main(functions):
    """Looks for the function main, which has no parameters and no result."""
    found = [function for function in functions if function[0] == "main"]
    if not found:
        raise Unknown("main")
    if found[0][1] or found[0][2] is not None:
        raise WrongKind("main", 0)


# What each statement but `break` has to keep.
RULES = {
    "set": set_keeps,
    "input": input_keeps,
    "new": reference_keeps,
    "free": reference_keeps,
    "load": load_keeps,
    "store": store_keeps,
    "get": get_keeps,
    "put": put_keeps,
    "call": call_keeps,
    "return": return_keeps,
    "if": if_keeps,
    "while": while_keeps,
    "assert": is_truth,
}
