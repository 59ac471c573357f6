"""What statements consist of, and their order in a body."""

# The roles of the parts of each statement, in the order of its text.
PARTS = {
    "set": ("variable", "expression"),
    "input": ("variable",),
    "new": ("variable",),
    "free": ("variable",),
    "load": ("variable", "variable", "field"),
    "store": ("variable", "field", "expression"),
    "get": ("variable", "array", "expression"),
    "put": ("array", "expression", "expression"),
    "call": ("variable", "function", "arguments"),
    "return": ("expression",),
    "if": ("expression", "body", "body"),
    "while": ("expression", "body"),
    "break": (),
    "assert": ("expression",),
}


def parts_of(statement):
    """The list of pairs (role, part) of a statement, without parts that are None."""
    roles = PARTS[statement[0]]
    return [(role, part) for role, part in zip(roles, statement[1:]) if part is not None]


def bodies_of(statement):
    """The list of the bodies of a statement, in order."""
    roles = PARTS[statement[0]]
    # Most statements have none, and all of them are asked very often.
    if "body" not in roles:
        return []
    return [part for role, part in zip(roles, statement[1:]) if role == "body"]


def list_statements(body, in_while=False):
    """The pairs (statement, whether a while is around it), in the order of the places."""
    found = []
    for statement in body:
        found.append((statement, in_while))
        for inner in bodies_of(statement):
            found.extend(list_statements(inner, in_while or statement[0] == "while"))
    return found


def count_statements(body):
    """The number of statements in a body, with those of the bodies in it."""
    count = len(body)
    for statement in body:
        for inner in bodies_of(statement):
            count += count_statements(inner)
    return count
