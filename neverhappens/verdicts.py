"""Verdicts: which faults never happen, and other questions about all runs of a program."""

from neverhappens.checker import accepts_rows
from neverhappens.cuts import assume
from neverhappens.errors import NoPlace, NoSite, NotAccepted
from neverhappens.leading import id_of
from neverhappens.least import Least
from neverhappens.names import check_statement
from neverhappens.rules import Rules
from neverhappens.scopes import Scope, function_named
from neverhappens.sites import is_plain, sites
from neverhappens.statements import count_statements

OPEN = ("open",)


def check_site(program, function, place, fault):
    """Raises NoSite if this is not a site of the program."""
    if (function, place, fault) not in sites(program):
        raise NoSite(function, place, fault)


def check_function(program, name, place):
    """Returns the function with this name; raises NoPlace if there is none."""
    function = function_named(program, name)
    if function is None:
        raise NoPlace(name, place)
    return function


def check_place(program, name, place):
    """Returns the function with this name; raises NoPlace if it has no statement at this place."""
    function = check_function(program, name, place)
    if not 0 <= place < count_statements(function[4]):
        raise NoPlace(name, place)
    return function


def faulty_rows(rules, rows):
    """A dict from sites to the list of the rows that may have their fault."""
    found = {}
    for row in rows:
        for fault in rules.faults(row):
            found.setdefault((row[0], row[2], fault), []).append(row)
    return found


def rows_at(rows, function, place):
    """The list of the rows at a place."""
    return [row for row in rows if row[0] == function and row[2] == place]


class Visits:
    """Gives the least numbers of visits; without them, all answers about rows are open."""

    def __init__(self, analysis, rules):
        plain = not analysis.cut and is_plain(analysis.program)
        self.least = Least(rules, analysis.rows) if plain else None

    def answer(self, word, rows, more):
        """The answer with the least number for one of the rows and so many visits more."""
        if self.least is None:
            return OPEN
        return (word, min([self.least.before(id_of(row)) for row in rows]) + more)


def answer_for(analysis, rules, none, word, rows, more):
    """The answer `none` if there are no rows, otherwise the word with the least number."""
    if analysis.cut:
        return OPEN
    return Visits(analysis, rules).answer(word, rows, more) if rows else (none,)


def verdict(analysis, function, place, fault):
    """Tells whether a fault never happens."""
    check_site(analysis.program, function, place, fault)
    rules = Rules(analysis.program)
    rows = rows_at(analysis.rows, function, place)
    faulty = [row for row in rows if fault in rules.faults(row)]
    return answer_for(analysis, rules, "never", "can", faulty, 1)


def report(analysis):
    """The list of pairs of a site and its verdict, for all sites."""
    asked = sites(analysis.program)
    if analysis.cut:
        return [(site, OPEN) for site in asked]
    rules = Rules(analysis.program)
    visits = Visits(analysis, rules)
    faulty = faulty_rows(rules, analysis.rows)
    return [
        (site, visits.answer("can", faulty[site], 1) if site in faulty else ("never",))
        for site in asked
    ]


def visited(analysis, function, place):
    """Tells whether a place is never visited."""
    check_place(analysis.program, function, place)
    rows = rows_at(analysis.rows, function, place)
    return answer_for(analysis, Rules(analysis.program), "never", "can", rows, 1)


def may_fail(rules, row, expression):
    """True if the expression may not hold before a visit of the row."""
    layout = rules.layouts[row[0]]
    known = dict(zip(layout.discrete, row[3][0]))
    return assume(expression, False, known, layout.large, row[4]) is not None


def holds(analysis, function, place, expression):
    """Tells whether an expression holds before each visit of a place."""
    program = analysis.program
    scope = Scope(program, check_place(program, function, place))
    check_statement(scope, place, ("assert", expression), False)
    rules = Rules(program)
    rows = rows_at(analysis.rows, function, place)
    failing = [row for row in rows if may_fail(rules, row, expression)]
    return answer_for(analysis, rules, "always", "fails", failing, 1)


def returns(analysis, function):
    """Tells whether no frame of a function ever ends."""
    body = check_function(analysis.program, function, None)[4]
    rows = rows_at(analysis.rows, function, count_statements(body))
    return answer_for(analysis, Rules(analysis.program), "never", "can", rows, 0)


def never_by(program, rows):
    """The list of the sites that never happen by a certificate."""
    rules = Rules(program)
    if not accepts_rows(rules, rows):
        raise NotAccepted()
    faulty = faulty_rows(rules, rows)
    return [site for site in sites(program) if site not in faulty]
