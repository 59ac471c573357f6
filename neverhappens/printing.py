"""The texts of expressions, kinds, functions and programs."""

from neverhappens.statements import bodies_of, parts_of

STEP = "  "


def expression_text(expression):
    """The text of an expression."""
    word = expression[0]
    if word == "num":
        return str(expression[1])
    if word == "flag":
        return "true" if expression[1] else "false"
    if word == "null":
        return "null"
    if word == "name":
        return expression[1]
    if word == "not":
        return f"(not {expression_text(expression[1])})"
    return f"({expression_text(expression[1])} {word} {expression_text(expression[2])})"


def kind_text(kind):
    """The text of a kind."""
    if kind[0] == "flag":
        return "flag"
    if kind[0] == "ref":
        return kind[1]
    return f"{kind[1]}..{kind[2]}"


def declaration_text(declaration):
    """The text of a pair of a name and a kind."""
    return f"{declaration[0]}: {kind_text(declaration[1])}"


def arguments_text(arguments):
    """The text of a call's arguments."""
    return ", ".join([expression_text(argument) for argument in arguments])


def part_text(role, part):
    """The text of one part of a statement, which is no body."""
    if role == "expression":
        return expression_text(part)
    if role == "arguments":
        return arguments_text(part)
    return part


def statement_text(statement):
    """The line of a statement; of an if or while its first line."""
    word = statement[0]
    texts = [part_text(role, part) for role, part in parts_of(statement) if role != "body"]
    if word == "set":
        return f"{texts[0]} = {texts[1]}"
    if word == "input" or word == "new":
        return f"{texts[0]} = {word}"
    if word == "load":
        return f"{texts[0]} = {texts[1]}.{texts[2]}"
    if word == "store":
        return f"{texts[0]}.{texts[1]} = {texts[2]}"
    if word == "get":
        return f"{texts[0]} = {texts[1]}[{texts[2]}]"
    if word == "put":
        return f"{texts[0]}[{texts[1]}] = {texts[2]}"
    if word == "call":
        before = "" if statement[1] is None else f"{statement[1]} = "
        return f"{before}{texts[-2]}({texts[-1]})"
    # What is left is a word alone or a word before one part.
    return " ".join([word, *texts])


def body_lines(body, margin):
    """The lines of a body's statements."""
    lines = []
    for statement in body:
        lines.append(margin + statement_text(statement))
        bodies = bodies_of(statement)
        if bodies:
            lines.extend(body_lines(bodies[0], margin + STEP))
            if len(bodies) > 1 and bodies[1]:
                lines.append(margin + "else")
                lines.extend(body_lines(bodies[1], margin + STEP))
            lines.append(margin + "end")
    return lines


def record_lines(record):
    """The lines of a record kind."""
    fields = [STEP + declaration_text(field) for field in record[1]]
    return [f"record {record[0]}", *fields, "end"]


def array_line(array):
    """The line of an array."""
    return f"array {array[0]}[{array[1]}]: {array[2]}..{array[3]}"


def function_lines(function):
    """The lines of a function."""
    name, params, result, own, body = function
    told = ", ".join([declaration_text(param) for param in params])
    tail = "" if result is None else f": {kind_text(result)}"
    variables = [f"{STEP}var {declaration_text(variable)}" for variable in own]
    return [f"def {name}({told}){tail}", *variables, *body_lines(body, STEP), "end"]


def joined(lines):
    """The text of lines, each of which ends with a newline."""
    return "".join([line + "\n" for line in lines])


def function_text(function):
    """The text of a function."""
    return joined(function_lines(function))


def program_text(program):
    """The text of a program."""
    lines = []
    for record in program[0]:
        lines.extend(record_lines(record))
    for array in program[1]:
        lines.append(array_line(array))
    for declaration in program[2]:
        lines.append(f"global {declaration_text(declaration)}")
    for function in program[3]:
        lines.extend(function_lines(function))
    return joined(lines)
