"""What the statements do that lead to the next statement.

Each function takes the memory of a run, the scope of the function and the values of the frame that
carries the statement out, and the parts of the statement. It returns the fault, or None; where
there is a fault, nothing has been changed.
"""

from neverhappens.kinds import is_outside, start_value


def set_effect(memory, scope, own, target, expression):
    """The variable becomes the value of the expression."""
    value = memory.value(expression, own)
    if is_outside(scope.kinds[target], value):
        return "range"
    memory.give(target, own, value)
    return None


def input_effect(memory, scope, own, target):
    """The variable becomes the next input, brought into its range."""
    number = memory.read()
    kind = scope.kinds[target]
    if kind[0] == "flag":
        memory.give(target, own, number % 2 == 1)
    else:
        memory.give(target, own, kind[1] + number % (kind[2] - kind[1] + 1))
    return None


def new_effect(memory, scope, own, target):
    """The variable refers to a new record."""
    name = scope.kinds[target][1]
    fields = [start_value(kind) for kind in scope.records[name].values()]
    memory.give(target, own, len(memory.records))
    memory.records.append((name, True, tuple(fields)))
    return None


def reference_fault(memory, reference):
    """The fault of looking at what a reference refers to, or None."""
    if reference is None:
        return "null"
    return None if memory.records[reference][1] else "gone"


def free_effect(memory, scope, own, holder):
    """The record of the variable is given back."""
    reference = memory.reference(holder, own)
    fault = reference_fault(memory, reference)
    if fault is None:
        memory.records[reference] = (memory.records[reference][0], False, ())
    return fault


def field_index(scope, holder, field):
    """The position of a field in the record that the variable refers to."""
    return list(scope.records[scope.kinds[holder][1]]).index(field)


def load_effect(memory, scope, own, target, holder, field):
    """The variable becomes the value of a field."""
    reference = memory.reference(holder, own)
    fault = reference_fault(memory, reference)
    if fault is None:
        fields = memory.records[reference][2]
        memory.give(target, own, fields[field_index(scope, holder, field)])
    return fault


def store_effect(memory, scope, own, holder, field, expression):
    """The field becomes the value of the expression."""
    reference = memory.reference(holder, own)
    fault = reference_fault(memory, reference)
    if fault is not None:
        return fault
    value = memory.value(expression, own)
    if is_outside(scope.field_kind(holder, field), value):
        return "range"
    name, live, fields = memory.records[reference]
    changed = list(fields)
    changed[field_index(scope, holder, field)] = value
    memory.records[reference] = (name, live, tuple(changed))
    return None


def get_effect(memory, scope, own, target, array, expression):
    """The variable becomes an element."""
    index = memory.value(expression, own)
    cells = memory.arrays[array]
    if not 0 <= index < len(cells):
        return "index"
    memory.give(target, own, cells[index])
    return None


def put_effect(memory, scope, own, array, place, expression):
    """The element becomes the value of the expression."""
    index = memory.value(place, own)
    if not 0 <= index < len(memory.arrays[array]):
        return "index"
    value = memory.value(expression, own)
    if is_outside(("num", *scope.arrays[array][2:]), value):
        return "range"
    memory.arrays[array][index] = value
    return None


def assert_effect(memory, scope, own, test):
    """Nothing happens if the expression holds."""
    return None if memory.value(test, own) else "assert"


EFFECTS = {
    "set": set_effect,
    "input": input_effect,
    "new": new_effect,
    "free": free_effect,
    "load": load_effect,
    "store": store_effect,
    "get": get_effect,
    "put": put_effect,
    "assert": assert_effect,
}


def carry_out(memory, scope, own, statement):
    """Carries out one of these statements. Returns the fault, or None."""
    effect = EFFECTS[statement[0]]
    parts = statement[1:]
    return effect(memory, scope, own, *parts)


def argument_values(memory, scope, own, call):
    """The list of the values of a call's arguments, or None if one is outside its range."""
    params = scope.functions[call[2]][1]
    values = [memory.value(argument, own) for argument in call[3]]
    for param, value in zip(params, values):
        if is_outside(param[1], value):
            return None
    return values


def first_values(function, values):
    """The dict of the values of a new frame, with these values of the parameters."""
    own = {param[0]: value for param, value in zip(function[1], values)}
    for name, kind in function[3]:
        own[name] = start_value(kind)
    return own


def last_value(scope):
    """The result of a frame of the function that ends without a return, None if it has none."""
    return None if scope.result is None else start_value(scope.result)


def returned_value(memory, scope, own, expression):
    """The pair of the fault, or None, and the value of a return."""
    if expression is None:
        return None, None
    value = memory.value(expression, own)
    fault = "range" if is_outside(scope.result, value) else None
    return fault, value
