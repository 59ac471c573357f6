"""Analyses: tables that describe all states of all runs of a program."""

from neverhappens.leading import id_of
from neverhappens.names import check_program
from neverhappens.rules import Rules
from neverhappens.tables import first_table, lower


class Analysis:
    """What is known about the runs of a program."""

    def __init__(self, program, limit, rounds, first, rows, kept):
        # The first table of a program has at least the row of the start.
        self.cut = first == ()
        self.program = program
        self.limit = limit
        self.rounds = rounds
        self.first = first
        self.rows = rows
        self._kept = kept
        self._ids = {id_of(row): True for row in rows}

    @property
    def kept(self):
        """The ids of the rows that are kept from the analysis before a change."""
        return self._kept

    def __len__(self):
        return len(self.rows)

    def __iter__(self):
        return iter(self.rows)

    def __contains__(self, asked):
        return asked in self._ids


def tables_of(program, limit, rounds, picks):
    """The pair of the tables `first` and `rows` of a program, both () if the first is too long."""
    rules = Rules(program)
    first = first_table(rules, limit, picks)
    if first is None:
        return (), ()
    rows = first
    for _ in range(rounds):
        rows = lower(rules, rows)
    return first, rows


def analyse(program, *, limit=200, rounds=2, picks=()):
    """The analysis of a program."""
    check_program(program)
    first, rows = tables_of(program, limit, rounds, picks)
    return Analysis(program, limit, rounds, first, rows, ())
