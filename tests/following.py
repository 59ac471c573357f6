"""Follows runs by the rules for rows, one visit after the other."""

from neverhappens.describing import rows_of_run
from neverhappens.graphs import nodes
from neverhappens.plain import run
from neverhappens.zones import has_point, is_inside, range_box
from tests.slow import point_box

# Statements behind which it is not told by the state alone what comes next.
OPEN = ("input", "get")


def pointed(row):
    """The row with the box that has the point of one of rows_of_run alone."""
    return (*row[:4], point_box(row[4]))


def fits(row, told):
    """True if the row describes a state that is told by one of rows_of_run."""
    return row[:4] == told[:4] and has_point(row[4], told[4])


class Follower:
    """The rows of the frames of a run, the top frame last; those below it stand at their calls.

    The row of the top frame may have more points than that of the run.
    """

    def __init__(self, rules):
        self.rules = rules
        self.graphs = {function[0]: nodes(function) for function in rules.program[3]}
        self.rows = [rules.start()]

    def word(self):
        """The word of the statement at which the run stands."""
        function, _, place, _, _ = self.rows[-1]
        return self.graphs[function][place][0][0]

    def ended(self, case, exit_rows):
        """All rows to which the ends of frames lead, until a frame goes on."""
        found = []
        below = len(self.rows) - 1
        while exit_rows:
            for row in exit_rows:
                if row[2] != self.rules.layouts[row[0]].exit:
                    found.append((below, row))
            at_exit = [row for row in exit_rows if row[2] == self.rules.layouts[row[0]].exit]
            if below == 0:
                return found, bool(at_exit)
            below -= 1
            exit_rows = []
            for row in at_exit:
                backs = self.rules.backs(self.rows[below], row)
                case.assertLessEqual(len(backs), 1)
                exit_rows.extend(backs)
        return found, False

    def visit(self, case):
        """The pairs (number of frames below, row) to which the visit leads, and whether it may end."""
        top = self.rows[-1]
        moves = self.rules.moves(top)
        if self.word() == "call":
            # A called function without statements is at its exit at once.
            begun = [(len(self.rows), row) for row in moves
                     if row[2] != self.rules.layouts[row[0]].exit]
            at_exit = [row for row in moves if row[2] == self.rules.layouts[row[0]].exit]
            behind = [found for row in at_exit for found in self.rules.backs(top, row)]
            found, over = self.ended(case, behind)
            return begun + found, over
        return self.ended(case, list(moves))


class Recorder(Follower):
    """Keeps the rows at exits to which visits lead, also those of frames that are below."""

    def __init__(self, rules):
        Follower.__init__(self, rules)
        self.ends = []

    def ended(self, case, exit_rows):
        self.ends += [row for row in exit_rows if row[2] == self.rules.layouts[row[0]].exit]
        return Follower.ended(self, case, exit_rows)

    def visit(self, case):
        if self.word() == "call":
            self.ends += [row for row in self.rules.moves(self.rows[-1])
                          if row[2] == self.rules.layouts[row[0]].exit]
        return Follower.visit(self, case)


def met_rows(case, program, rules, inputs, visits):
    """The rows, with single points, of the states and of the ends of frames of a run."""
    told = [pointed(row) for row in rows_of_run(program, inputs, visits)]
    recorder = Recorder(rules)
    if not told:
        return [recorder.rows[0]]
    for at, row in enumerate(told):
        recorder.rows[-1] = row
        found, _ = recorder.visit(case)
        if at + 1 < len(told):
            below = next(below for below, other in found if is_inside_row(told[at + 1], other))
            recorder.rows = [*recorder.rows[:below], told[at + 1]]
    return told + recorder.ends


def is_inside_row(row, other):
    return row[:4] == other[:4] and is_inside(row[4], other[4])


def follow_run(case, program, rules, inputs, visits, mode):
    """Checks that each row of a run is among those to which the rules lead; returns the number.

    In the mode "exact" each visit begins with the run's point alone, and where nothing is open it
    must lead to the next point alone. In the mode "wide" each visit begins with all points of the
    ranges, in the mode "own" with what the visit before has led to.
    """
    told = rows_of_run(program, inputs, visits)
    outcome, count, _ = run(program, inputs, visits)
    case.assertEqual(len(told), count)
    follower = Follower(rules)
    if not told:
        case.assertEqual(follower.rows[0][2], rules.layouts["main"].exit)
        return 0
    case.assertEqual(follower.rows[0], pointed(told[0]))
    for at, wanted in enumerate(told):
        row = follower.rows[-1]
        case.assertTrue(fits(row, wanted), (row, wanted))
        if mode == "exact":
            follower.rows[-1] = pointed(wanted)
        elif mode == "wide":
            follower.rows[-1] = (*row[:4], range_box(rules.layouts[row[0]].ranges))
        faults = rules.faults(follower.rows[-1])
        found, over = follower.visit(case)
        if at + 1 == len(told):
            check_end(case, outcome, faults, found, over, mode == "exact")
            break
        fitting = [(below, row) for below, row in found if fits(row, told[at + 1])]
        case.assertTrue(fitting, (follower.rows[-1], told[at + 1]))
        if mode == "exact" and follower.word() not in OPEN:
            case.assertEqual((faults, over), ((), False))
            case.assertEqual([row for _, row in found], [pointed(told[at + 1])])
        below, row = fitting[0]
        follower.rows = [*follower.rows[:below], row]
    return len(told)


def check_end(case, outcome, faults, found, over, exact):
    """Checks what the rules tell of the last visit that is looked at."""
    if outcome[0] == "fault":
        case.assertIn(outcome[3], faults)
        if exact:
            case.assertEqual((faults, found, over), ((outcome[3],), [], False))
    elif outcome[0] == "end":
        case.assertTrue(over)
