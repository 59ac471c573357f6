"""Puts another function in the place of one, and tells what an analysis keeps."""

from neverhappens.analysis import Analysis, tables_of
from neverhappens.errors import WrongChange
from neverhappens.leading import ends_of, id_of, ways_from
from neverhappens.names import check_program
from neverhappens.rules import Rules
from neverhappens.scopes import function_named


def replace_function(program, function):
    """The program with this function in the place of the one with its name."""
    name = function[0]
    old = function_named(program, name)
    if old is None or old[1:3] != function[1:3]:
        raise WrongChange(name)
    functions = tuple([function if other[0] == name else other for other in program[3]])
    return (*program[:3], functions)


def leads_by_id(rules, rows):
    """A dict from the id of each row to the ids to which it leads, alone or with another row."""
    ends = ends_of(rules, rows)
    found = {id_of(row): [] for row in rows}
    for row in rows:
        for led, end in ways_from(rules, row, ends):
            found[id_of(row)].append(id_of(led))
            if end is not None:
                found[id_of(end)].append(id_of(led))
    return found


def touched_ids(rules, rows, name):
    """A dict with the ids that a change of the function with this name touches."""
    leads = leads_by_id(rules, rows)
    pending = [found for found in leads if found[0] == name]
    touched = {}
    while pending:
        found = pending.pop()
        if found not in touched:
            touched[found] = True
            pending.extend(leads[found])
    return touched


def kept_ids(program, rows, name):
    """The tuple of the ids of rows that a change of the function with this name does not touch."""
    touched = touched_ids(Rules(program), rows, name)
    return tuple([id_of(row) for row in rows if id_of(row) not in touched])


def revise(analysis, function, *, picks=()):
    """The analysis of the program with this function in the place of the one with its name."""
    program = replace_function(analysis.program, function)
    check_program(program)
    limit = analysis.limit
    first, rows = tables_of(program, limit, analysis.rounds, picks)
    kept = ()
    if first != () and not analysis.cut:
        kept = kept_ids(analysis.program, analysis.first, function[0])
    return Analysis(program, limit, analysis.rounds, first, rows, kept)
