"""The graph of a function: where each of its statements leads to."""

from neverhappens.statements import count_statements, list_statements


def nodes(function):
    """The tuple of the nodes (step, next, other) of a function, in the order of the places."""
    body = function[4]
    leave = count_statements(body)
    return tuple(body_nodes(body, 0, (leave, None, leave)))


def heads(function):
    """The tuple of the places of the while statements of a function."""
    listed = list_statements(function[4])
    return tuple([at for at, (statement, _) in enumerate(listed) if statement[0] == "while"])


def body_nodes(body, place, ways):
    """The nodes of a body whose first statement has this place.

    The ways are the places behind the body, behind the innermost while, and the exit.
    """
    found = []
    for at, statement in enumerate(body):
        behind = place + count_statements((statement,))
        after = behind if at + 1 < len(body) else ways[0]
        found.extend(statement_nodes(statement, place, (after, *ways[1:])))
        place = behind
    return found


def statement_nodes(statement, place, ways):
    """The nodes of a statement and of its bodies; the first way is what comes after it."""
    after, broken, leave = ways
    word = statement[0]
    if word == "if":
        return if_nodes(statement, place, ways)
    if word == "while":
        inner = body_nodes(statement[2], place + 1, (place, after, leave))
        start = first_place(statement[2], place + 1, place)
        return [(("test", statement[1]), start, after), *inner]
    if word == "break":
        return [(("go",), broken, None)]
    return [(statement, leave if word == "return" else after, None)]


def if_nodes(statement, place, ways):
    """The nodes of an if and of its bodies."""
    _, test, first, second = statement
    middle = place + 1 + count_statements(first)
    node = (
        ("test", test),
        first_place(first, place + 1, ways[0]),
        first_place(second, middle, ways[0]),
    )
    return [node, *body_nodes(first, place + 1, ways), *body_nodes(second, middle, ways)]


def first_place(body, place, after):
    """Where a body begins whose first statement would have this place."""
    return place if body else after
