"""Witnesses: lines that build up a run of a plain program, and share what is done again."""

from neverhappens.errors import BadWitness, NotPlain, TooLong
from neverhappens.fitting import is_integer
from neverhappens.leading import id_of, is_end
from neverhappens.least import Least
from neverhappens.rules import Rules
from neverhappens.sites import is_plain
from neverhappens.verdicts import check_site, rows_at


def earlier(rows, number):
    """The row of the line with this number, None if there is no such line."""
    return rows[number] if is_integer(number) and 0 <= number < len(rows) else None


def is_at_input(rules, row):
    """True if the row, which is not at an exit, is at an input."""
    return rules.layouts[row[0]].graph[row[2]][0][0] == "input"


def stepped(rules, row, cell):
    """The row to which a step leads, None if there is no such step."""
    if row is None or is_end(rules, row) or rules.called(row) is not None:
        return None
    moves = rules.moves(row)
    if is_at_input(rules, row):
        return earlier(moves, cell)
    return moves[0] if cell is None and len(moves) == 1 else None


def entered(rules, row):
    """The row where the function begins that a row calls, None if this is not told."""
    if row is None or rules.called(row) is None:
        return None
    moves = rules.moves(row)
    return moves[0] if len(moves) == 1 else None


def gone_back(rules, row, exit_row):
    """The row behind a call and the end of its frame, None if there is none."""
    if row is None or exit_row is None:
        return None
    backs = rules.backs(row, exit_row)
    return backs[0] if backs else None


def row_of_line(rules, rows, line):
    """The row for which a line stands behind lines with these rows, None if it has none."""
    if line == ("start",):
        return rules.start()
    if not isinstance(line, tuple) or len(line) not in (2, 3):
        return None
    if line[0] == "enter" and len(line) == 2:
        return entered(rules, earlier(rows, line[1]))
    if line[0] == "step" and len(line) == 3:
        return stepped(rules, earlier(rows, line[1]), line[2])
    if line[0] == "back" and len(line) == 3:
        return gone_back(rules, earlier(rows, line[1]), earlier(rows, line[2]))
    return None


def witness_rows(program, witness):
    """The list of the ids of the rows for which the lines stand."""
    if not is_plain(program):
        raise NotPlain()
    rules = Rules(program)
    rows = []
    for at, line in enumerate(witness):
        row = row_of_line(rules, rows, line)
        if row is None:
            raise BadWitness(at)
        rows.append(row)
    return [id_of(row) for row in rows]


class Counts:
    """The numbers of the own inputs and visits of each line of a witness, and its root."""

    def __init__(self, witness):
        self.inputs = []
        self.visits = []
        self.roots = []
        for at, line in enumerate(witness):
            if line[0] == "step":
                self.add(line[1], 0 if line[2] is None else 1, 1)
            elif line[0] == "back":
                _, below, ended = line
                self.add(below, self.inputs[ended], self.visits[ended] + 1)
            else:
                self.inputs.append(0)
                self.visits.append(0)
                self.roots.append(at)

    def add(self, at, inputs, visits):
        """Adds a line that goes on from another one with so many inputs and visits more."""
        self.inputs.append(self.inputs[at] + inputs)
        self.visits.append(self.visits[at] + visits)
        self.roots.append(self.roots[at])


def checked_counts(program, witness):
    """The counts of a witness that is right and has a line."""
    witness_rows(program, witness)
    if not witness:
        raise BadWitness(0)
    return Counts(witness)


def whole_lines(witness, counts):
    """The list of the lines whose own inputs, one after the other, are those of the last line.

    The last line comes first, then the line of the call that has entered its frame, and so on.
    """
    found = [len(witness) - 1]
    root = witness[counts.roots[-1]]
    while root[0] == "enter":
        found.append(root[1])
        root = witness[counts.roots[root[1]]]
    return found


def witness_visits(program, witness):
    """The whole visits of the last line."""
    counts = checked_counts(program, witness)
    lines = whole_lines(witness, counts)
    return sum([counts.visits[at] for at in lines]) + len(lines) - 1


def sources(witness, counts):
    """For each line the earliest one with the same own inputs.

    Otherwise lines without inputs would be gone through as often as they are used, which may be
    far more often than there are inputs.
    """
    found = []
    for at, line in enumerate(witness):
        same = at
        if line[0] == "step" and line[2] is None:
            same = found[line[1]]
        elif line[0] == "back" and counts.inputs[line[2]] == 0:
            same = found[line[1]]
        elif line[0] == "back" and counts.inputs[line[1]] == 0:
            same = found[line[2]]
        found.append(same)
    return found


def listed_inputs(witness, counts, lines):
    """The list of the own inputs of these lines, those of the last one first."""
    same = sources(witness, counts)
    # The inputs are found from the last one to the first one.
    pending = list(reversed(lines))
    found = []
    while pending:
        line = witness[same[pending.pop()]]
        if line[0] == "step":
            found.append(line[2])
            pending.append(line[1])
        elif line[0] == "back":
            pending.extend(line[1:])
    found.reverse()
    return found


def witness_inputs(program, witness, *, most=2000):
    """The list of the whole inputs of the last line."""
    counts = checked_counts(program, witness)
    lines = whole_lines(witness, counts)
    amount = sum([counts.inputs[at] for at in lines])
    if amount > most:
        raise TooLong(amount)
    return listed_inputs(witness, counts, lines)


def needed_ids(least, found):
    """The ids of the rows that the row before this one needs, by its way."""
    way = least.ways[found]
    if way[0] == "step":
        return [way[1]]
    if way[0] == "back":
        return list(way[1:])
    caller = least.callers[found[:2]]
    return [] if caller is None else [caller]


def all_needed(least, found):
    """The list of the ids that the row with this id needs, and its own, in a possible order."""
    pending = [found]
    needed = {}
    while pending:
        other = pending.pop()
        if other not in needed:
            needed[other] = True
            pending.extend(needed_ids(least, other))
    # What a row needs comes earlier in runs, or at the same time within a frame above it.
    return sorted(list(needed), key=lambda other: (least.before(other), least.frames[other]))


def line_of(rules, least, numbers, found):
    """The line of the row with this id; the rows that it needs have these numbers."""
    earlier_lines = [numbers[other] for other in needed_ids(least, found)]
    way = least.ways[found]
    if way[0] == "back":
        return ("back", *earlier_lines)
    if way[0] == "step":
        return ("step", *earlier_lines, way[2] if is_at_input(rules, way[1]) else None)
    return ("enter", *earlier_lines) if earlier_lines else ("start",)


def shortest_witness(rules, least, found):
    """A witness whose last line stands for the row with this id."""
    ids = all_needed(least, found)
    numbers = {other: at for at, other in enumerate(ids)}
    return tuple([line_of(rules, least, numbers, other) for other in ids])


def find_witness(analysis, function, place, fault):
    """A witness for the verdict that a fault can happen, None if this is not the verdict."""
    check_site(analysis.program, function, place, fault)
    rules = Rules(analysis.program)
    rows = rows_at(analysis.rows, function, place)
    faulty = [id_of(row) for row in rows if fault in rules.faults(row)]
    if not faulty or not is_plain(analysis.program):
        return None
    least = Least(rules, analysis.rows)
    return shortest_witness(rules, least, min(faulty, key=lambda found: least.before(found)))
