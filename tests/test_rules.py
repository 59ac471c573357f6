"""Points 48 to 55, for the rules of whole programs, and that they tell what runs do."""

import itertools
import unittest

from neverhappens.calls import enter
from neverhappens.describing import rows_of_run
from neverhappens.graphs import nodes
from neverhappens.layouts import Layout
from neverhappens.reading import read_program
from neverhappens.rules import Rules
from neverhappens.steps import step
from neverhappens.zones import range_box
from tests.following import Follower, fits, follow_run, pointed
from tests.making import CarefulMaker, NumberMaker, PlainMaker, RightMaker
from tests.samples import DOOR
from tests.slow import NO_COLUMNS
from tests.test_calls import equal_columns

SHUT = ("door", True, (False,))
GONE = ("door", False, ())
# The entries of main and of shut in the program of the document.
FIRST = ((None,), ())
ENTRY = ((None, 0, 2), (SHUT,))

LARGE = """\
record leaf
  n: 0..3
end
global big: 5..50
global t: flag
def half(n: 0..99): 0..99
  if (n < 2)
    return 0
  end
  big = (big + 1)
  n = half((n - 2))
  return (n + 1)
end
def main()
  var x: 0..99
  var i: 0..2
  x = input
  i = input
  x = half(x)
  big = 7
end
"""


class RulesCase(unittest.TestCase):
    def check(self, found, *wanted):
        self.assertEqual(repr(found), repr(wanted))


class TestAttributes(unittest.TestCase):
    def test_attributes(self):
        rules = Rules(DOOR)
        self.assertIs(rules.program, DOOR)
        self.assertEqual(list(rules.layouts), ["shut", "main"])
        for name, layout in rules.layouts.items():
            self.assertIsInstance(layout, Layout)
            self.assertEqual(vars(layout), vars(Layout(DOOR, name)))


class TestStart(unittest.TestCase):
    def check(self, text, *wanted):
        self.assertEqual(repr(Rules(read_program(text)).start()), repr(wanted))

    def test_statements(self):
        self.check(LARGE, "main", ((False,), ()), 0, ((False, 0), ()), range_box(((5, 5), (0, 0), (5, 5))))
        self.assertEqual(repr(Rules(DOOR).start()), repr(("main", FIRST, 0, ((None, None), ()), NO_COLUMNS)))

    def test_without_statements(self):
        self.check("def main()\nend\n", "main", ((), ()), 0, ((), ()), NO_COLUMNS)
        self.check("record leaf\nend\nglobal a: 3..4\nglobal b: -90..-7\nglobal c: leaf\ndef main()\n  var d: 5..99\n"
                   "  var e: flag\nend\n",
                   "main", ((3, None), ()), 0, ((3, None), ()), range_box(((-7, -7), (-7, -7))))


class TestDocumentsProgram(RulesCase):
    """The moves, faults and backs of the program of point 14."""

    rules = Rules(DOOR)

    def main(self, place, d, *records):
        return ("main", FIRST, place, ((None, d), records), NO_COLUMNS)

    def shut(self, place, last, was, record, entry=ENTRY):
        return ("shut", entry, place, ((last, 0, 2, was), (record,)), NO_COLUMNS)

    def test_moves_in_main(self):
        self.check(self.rules.moves(self.main(0, None)), self.main(1, 0, SHUT))
        self.check(self.rules.moves(self.main(1, 0, SHUT)), self.main(2, 0, SHUT))
        self.check(self.rules.moves(self.main(2, 0, SHUT)), self.shut(0, None, False, SHUT))
        for place, d, records in ((0, None, ()), (1, 0, (SHUT,)), (2, 0, (SHUT,))):
            self.check(self.rules.faults(self.main(place, d, *records)))

    def test_moves_in_shut(self):
        opened = ("door", True, (True,))
        self.check(self.rules.moves(self.shut(0, None, False, SHUT)), self.shut(1, None, False, SHUT))
        self.check(self.rules.moves(self.shut(0, None, False, opened)), self.shut(1, None, True, opened))
        self.check(self.rules.moves(self.shut(1, None, False, SHUT)), self.shut(4, None, False, SHUT))
        self.check(self.rules.moves(self.shut(1, None, True, SHUT)), self.shut(2, None, True, SHUT))
        self.check(self.rules.moves(self.shut(2, None, True, opened)), self.shut(3, None, True, SHUT))
        self.check(self.rules.moves(self.shut(3, None, True, SHUT)), self.shut(5, None, True, GONE))
        self.check(self.rules.moves(self.shut(4, None, True, SHUT)), self.shut(5, 0, True, SHUT))
        self.check(self.rules.moves(self.shut(5, None, True, GONE)),
                   ("shut", ENTRY, 6, ((None, True), (GONE,)), NO_COLUMNS))

    def test_faults_in_shut(self):
        for place in (0, 2, 3):
            self.check(self.rules.faults(self.shut(place, None, False, SHUT)))
            self.check(self.rules.faults(self.shut(place, None, False, GONE)), "gone")
            self.check(self.rules.moves(self.shut(place, None, False, GONE)))
            row = ("shut", ((None, None, 2), ()), place, ((None, None, 2, False), ()), NO_COLUMNS)
            self.check(self.rules.faults(row), "null")
            self.check(self.rules.moves(row))

    def test_exit(self):
        row = ("shut", ENTRY, 6, ((None, True), (GONE,)), NO_COLUMNS)
        self.check(self.rules.faults(row))
        self.check(self.rules.moves(row))
        row = ("main", FIRST, 3, ((None,), ()), NO_COLUMNS)
        self.check(self.rules.faults(row))
        self.check(self.rules.moves(row))

    def test_backs(self):
        call = self.main(2, 0, SHUT)
        self.check(self.rules.backs(call, ("shut", ENTRY, 6, ((0, False), (SHUT,)), NO_COLUMNS)),
                   ("main", FIRST, 1, ((0, 0), (SHUT,)), NO_COLUMNS))
        self.check(self.rules.backs(call, ("shut", ENTRY, 6, ((None, True), (GONE,)), NO_COLUMNS)),
                   ("main", FIRST, 1, ((None, 0), (GONE,)), NO_COLUMNS))

    def test_backs_of_other_rows(self):
        call = self.main(2, 0, SHUT)
        ended = ("shut", ENTRY, 6, ((0, False), (SHUT,)), NO_COLUMNS)
        # An exit row of another entry: another record, another number, another last.
        for entry, key in (
            (((None, 0, 2), (GONE,)), ((None, False), (GONE,))),
            (((None, 0, 1), (SHUT,)), ((0, False), (SHUT,))),
            (((0, 0, 2), (SHUT,)), ((0, False), (SHUT,))),
            (((None, None, 2), ()), ((None, False), ())),
        ):
            self.check(self.rules.backs(call, ("shut", entry, 6, key, NO_COLUMNS)))
        # An exit row of another function, and a row that is not at the exit.
        self.check(self.rules.backs(call, ("main", FIRST, 3, ((None,), ()), NO_COLUMNS)))
        self.check(self.rules.backs(call, self.shut(5, 0, False, SHUT)))
        # A row that is not at a call: at another statement, or at the exit.
        for row in (self.main(0, None), self.main(1, 0, SHUT), ("main", FIRST, 3, ((None,), ()), NO_COLUMNS),
                    self.shut(4, None, True, SHUT), ended):
            self.check(self.rules.backs(row, ended))


class TestEachStatement(RulesCase):
    def test_moves_and_faults_are_those_of_step_and_enter(self):
        words = set()
        for seed in range(60):
            program = (RightMaker if seed % 3 == 0 else CarefulMaker)(seed).program()
            rules = Rules(program)
            for row in self.rows(rules, program):
                function, entry, place, key, box = row
                layout = rules.layouts[function]
                graph = nodes(next(found for found in program[3] if found[0] == function))
                if place == len(graph):
                    words.add("exit")
                    self.check(rules.faults(row))
                    self.check(rules.moves(row))
                    continue
                words.add(graph[place][0][0])
                if graph[place][0][0] == "call":
                    callee = rules.layouts[graph[place][0][2]]
                    faults, members = enter(layout, callee, place, key, box)
                    wanted = [(callee.name, *member[:4]) for member in members]
                else:
                    faults, triples = step(layout, len(entry[1]), place, key, box)
                    wanted = [(function, entry, *triple) for triple in triples]
                self.check(rules.faults(row), *faults)
                self.check(rules.moves(row), *wanted)
        self.assertEqual(words, set(
            "set input new free load store get put call return test go assert exit".split()))

    def rows(self, rules, program):
        """Rows at the places of runs, with their points alone and with all points, and exits."""
        for told in rows_of_run(program, [3, -4], 40):
            row = pointed(told)
            yield row
            yield (*row[:4], range_box(rules.layouts[row[0]].ranges))
            for led in rules.moves(row):
                if led[2] == rules.layouts[led[0]].exit:
                    yield led


class TestCallsOfLargeNumbers(RulesCase):
    rules = Rules(read_program(LARGE))
    entry = ((False,), ())
    key = ((False, 0), ())

    def main(self, place, big, x):
        return ("main", self.entry, place, self.key, range_box((big, x, (5, 5))))

    def test_call(self):
        call = self.main(2, (5, 9), (0, 40))
        # In half: big, n, and big and n at first.
        begun = equal_columns(range_box(((5, 9), (0, 40), (5, 9), (0, 40))), (1, 3, 0), (2, 4, 0))
        self.check(self.rules.moves(call), ("half", self.entry, 0, ((False,), ()), begun))
        self.check(self.rules.faults(call))

    def test_faults_of_a_call(self):
        row = ("half", self.entry, 3, ((False,), ()), range_box(((5, 5), (0, 9), (5, 5), (0, 9))))
        self.check(self.rules.faults(row), "range")
        self.assertEqual(len(self.rules.moves(row)), 1)
        row = ("half", self.entry, 3, ((False,), ()), range_box(((5, 5), (0, 1), (5, 5), (0, 1))))
        self.check(self.rules.faults(row), "range")
        self.check(self.rules.moves(row))
        row = ("half", self.entry, 3, ((False,), ()), range_box(((5, 5), (2, 9), (5, 5), (2, 9))))
        self.check(self.rules.faults(row))

    def test_moves_and_faults_of_other_statements(self):
        box = range_box(((5, 50), (3, 9), (5, 50), (3, 9)))
        row = ("half", self.entry, 2, ((False,), ()), box)
        self.check(self.rules.faults(row), "range")
        self.check(self.rules.moves(row),
                   ("half", self.entry, 3, ((False,), ()), range_box(((6, 50), (3, 9), (5, 50), (3, 9)))))
        row = ("half", self.entry, 0, ((False,), ()), range_box(((5, 5), (1, 2), (5, 5), (1, 2))))
        self.check(self.rules.moves(row),
                   ("half", self.entry, 1, ((False,), ()), range_box(((5, 5), (1, 1), (5, 5), (1, 2)))),
                   ("half", self.entry, 2, ((False,), ()), range_box(((5, 5), (2, 2), (5, 5), (1, 2)))))
        self.check(self.rules.moves(self.main(0, (5, 5), (0, 0))), self.main(1, (5, 5), (0, 99)))
        self.check(self.rules.moves(self.main(1, (5, 5), (3, 4))), *[
            ("main", self.entry, 2, ((False, value), ()), range_box(((5, 5), (3, 4), (5, 5))))
            for value in (0, 1, 2)])
        self.check(self.rules.moves(self.main(3, (5, 5), (3, 4))),
                   ("main", self.entry, 4, ((False,), ()), range_box(((7, 7), (5, 5)))))

    def test_backs(self):
        call = self.main(2, (5, 9), (0, 40))
        # big, the result, and big and n at first: the result is at most n, and big has grown.
        ended = ("half", self.entry, 5, ((True,), ()), range_box(((6, 20), (1, 8), (6, 50), (3, 99))))
        self.check(self.rules.backs(call, ended),
                   ("main", self.entry, 3, ((True, 0), ()), range_box(((6, 20), (1, 8), (5, 5)))))
        # The callee of this exit row began with numbers that are not possible here.
        for first in (((10, 50), (0, 99)), ((5, 50), (41, 99))):
            ended = ("half", self.entry, 5, ((True,), ()), range_box(((6, 20), (1, 8), *first)))
            self.check(self.rules.backs(call, ended))


class TestRecursion(RulesCase):
    def test_backs_between_frames_of_one_function(self):
        text = "def f(n: 0..3): 0..3\n  if (n == 0)\n    return 0\n  end\n  n = f((n - 1))\n  return (n + 1)\nend\n" \
               "def main()\n  f(3)\nend\n"
        rules = Rules(read_program(text))

        def row(entry, place, *values):
            return ("f", ((entry,), ()), place, (values, ()), NO_COLUMNS)

        self.check(rules.moves(row(3, 2, 3)), row(2, 0, 2))
        self.check(rules.backs(row(3, 2, 3), row(2, 4, 2)), row(3, 3, 2))
        self.check(rules.backs(row(3, 2, 3), row(2, 4, 0)), row(3, 3, 0))
        self.check(rules.backs(row(3, 2, 3), row(1, 4, 1)))
        self.check(rules.backs(row(3, 2, 3), row(3, 4, 3)))
        self.check(rules.moves(row(3, 3, 2)), row(3, 4, 3))
        self.check(rules.faults(row(3, 2, 0)), "range")
        self.check(rules.moves(row(3, 2, 0)))

    def test_a_function_without_statements(self):
        text = "def none(n: 1..2): 4..5\nend\ndef main()\n  var a: 4..5\n  var b: 1..2\n  a = none(b)\n  a = 5\nend\n"
        rules = Rules(read_program(text))
        call = ("main", ((), ()), 0, ((5, 2), ()), NO_COLUMNS)
        ended = ("none", ((2,), ()), 0, ((4,), ()), NO_COLUMNS)
        self.check(rules.moves(call), ended)
        self.check(rules.backs(call, ended), ("main", ((), ()), 1, ((4, 2), ()), NO_COLUMNS))
        self.check(rules.moves(ended))
        self.check(rules.faults(ended))
        self.check(rules.backs(ended, ended))


# Programs whose runs with all inputs are looked at, with the numbers of inputs and of their values.
SHORT = [
    (LARGE, 2, range(0, 12)),
    ("""\
record leaf
  n: 0..2
end
record tree
  left: leaf
  right: leaf
end
global last: leaf
def put(t: tree, left: flag, n: 0..2): leaf
  var l: leaf
  l = new
  l.n = n
  if left
    last = t.left
    t.left = l
  else
    last = t.right
    t.right = l
  end
  return last
end
def main()
  var t: tree
  var l: leaf
  var a: flag
  var n: 0..2
  t = new
  while true
    a = input
    n = input
    l = put(t, a, n)
    if (not (l same null))
      free l
    else
      if (n == 2)
        free t
      end
    end
  end
end
""", 6, range(0, 3)),
    ("""\
array row[3]: 0..4
global many: 0..30
def main()
  var i: -1..3
  var v: 0..4
  var w: 0..30
  while (w <= many)
    i = input
    v = row[i]
    many = ((many + v) + 1)
    row[i] = (i + many)
    w = (2 * (many - 1))
    assert (many != 3)
  end
end
""", 3, range(0, 5)),
    ("""\
global a: 0..3
global b: 0..20
def up(n: 0..3, m: 0..20): 0..20
  a = n
  b = m
  return (m + n)
end
def main()
  var n: 0..3
  n = input
  b = up(n, (n * n))
  b = up(a, b)
  a = input
  b = up((a + n), b)
end
""", 2, range(0, 4)),
]


class TestRuns(unittest.TestCase):
    def test_short_runs_with_all_inputs(self):
        for text, count, values in SHORT:
            program = read_program(text)
            rules = Rules(program)
            for inputs in itertools.product(values, repeat=count):
                for mode in ("exact", "own", "wide"):
                    follow_run(self, program, rules, list(inputs), 40, mode)

    def test_programs_by_chance(self):
        visits = 0
        for seed in range(250):
            maker = RightMaker if seed % 4 == 0 else CarefulMaker
            program = maker(seed).program()
            rules = Rules(program)
            visits += follow_run(self, program, rules, [3, -4, 5, 11], 60, "exact")
            follow_run(self, program, rules, [-7, 2], 60, "own")
            follow_run(self, program, rules, [3, -4, 5, 11], 60, "wide")
        self.assertGreater(visits, 3000)

    def test_large_numbers_by_chance(self):
        visits = 0
        for seed in range(150):
            program = NumberMaker(seed).program()
            rules = Rules(program)
            for mode in ("exact", "own", "wide"):
                visits += follow_run(self, program, rules, [30, -4, 5, 1], 60, mode)
        self.assertGreater(visits, 5000)

    def test_program_of_the_document(self):
        self.assertEqual(follow_run(self, DOOR, Rules(DOOR), [], 50, "exact"), 50)

    def test_plain_programs_by_chance(self):
        visits = 0
        for seed in range(250):
            program = PlainMaker(seed).program()
            rules = Rules(program)
            visits += follow_run(self, program, rules, [3, -4, 5, 1, 1, 0, 2], 100, "exact")
        self.assertGreater(visits, 3000)

    def test_each_move_of_an_input_in_plain_programs(self):
        """The moves of an input are those of the runs with 0, 1, 2 .. as the next input, in this order."""
        seen = 0
        for seed in range(120):
            program = PlainMaker(seed).program()
            rules = Rules(program)
            told = rows_of_run(program, [1, 0, 2, 1], 25)
            reads = 0
            follower = Follower(rules)
            for at, row in enumerate(told[:-1]):
                self.assertEqual(follower.rows[-1], pointed(row))
                found, _ = follower.visit(self)
                if follower.word() == "input":
                    for cell, (_, led) in enumerate(found):
                        inputs = [*[1, 0, 2, 1, *[0] * 25][:reads], cell]
                        self.assertEqual(led, pointed(rows_of_run(program, inputs, at + 2)[at + 1]))
                        seen += 1
                    reads += 1
                below, led = next((below, led) for below, led in found if fits(led, told[at + 1]))
                follower.rows = [*follower.rows[:below], led]
        self.assertGreater(seen, 200)


if __name__ == "__main__":
    unittest.main()
