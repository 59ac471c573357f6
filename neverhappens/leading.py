"""What the rows of a table lead to, one by one and two by two."""


def id_of(row):
    """The id of a row."""
    return row[:4]


def is_end(rules, row):
    """True if the row is at the exit of its function."""
    return row[2] == rules.layouts[row[0]].exit


def ends_of(rules, rows):
    """A dict from pairs (function, entry) to the list of the rows at the exit that have them."""
    found = {}
    for row in rows:
        if is_end(rules, row):
            found.setdefault(row[:2], []).append(row)
    return found


def ways_from(rules, row, ends):
    """The list of the ways that lead on from a row.

    A way is a pair of the row that it leads to and of the exit row that it needs, None if it needs
    none. For a call the ways to where the called function begins need none.
    """
    callee = rules.called(row)
    if callee is None:
        return [(led, None) for led in rules.moves(row)]
    found = []
    for member in rules.members(row)[1]:
        found.append(((callee.name, *member[:4]), None))
        for end in ends.get((callee.name, member[0]), ()):
            behind = rules.behind(row, member, end)
            if behind is not None:
                found.append((behind, end))
    return found


def rows_led_to(rules, rows):
    """The list of the row of the start and of all rows to which these rows lead."""
    ends = ends_of(rules, rows)
    found = [rules.start()]
    for row in rows:
        found.extend([led for led, _ in ways_from(rules, row, ends)])
    return found
