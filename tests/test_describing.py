"""Points 46 and 47."""

import unittest

from neverhappens.describing import rows_of_run
from neverhappens.keys import number_key
from neverhappens.kinds import is_discrete, is_large
from neverhappens.plain import Machine, run
from neverhappens.reading import read_program
from tests.making import RightMaker
from tests.samples import DOOR

WORLD = """\
record leaf
  n: 0..3
end
record tree
  left: leaf
  right: leaf
end
global total: 0..100
global last: tree
"""


def slow_rows(program, inputs, visits):
    """The words of points 46 and 47 once more, from the states of a Machine."""
    machine = Machine(program, inputs)
    functions = {function[0]: function for function in program[3]}
    shared = [name for name, _ in program[2]]
    begun = []
    rows = []
    while machine.visits < visits and machine.outcome()[0] == "going":
        frames, values_of_globals, _, records = machine.state()
        name, place, own = frames[-1]
        _, params, _, variables, _ = functions[name]
        entry_kinds = dict((*program[2], *params))
        kinds = {**entry_kinds, **dict(variables)}
        values = dict(zip([*shared, *[found for found, _ in (*params, *variables)]],
                          (*values_of_globals, *own)))

        def told(found_kinds, test):
            return tuple(values[found] for found, kind in found_kinds.items() if test(kind))

        def key_of(found_kinds, fixed):
            discrete = tuple(kind for kind in found_kinds.values() if is_discrete(kind))
            return number_key(program, discrete, told(found_kinds, is_discrete), records, fixed)

        begun = begun[:len(frames)]
        if len(begun) < len(frames):
            entry, fixed = key_of(entry_kinds, ())
            begun.append((entry, fixed, told(entry_kinds, is_large)))
        entry, fixed, numbers = begun[-1]
        rows.append((name, entry, place, key_of(kinds, fixed)[0], told(kinds, is_large) + numbers))
        machine.visit()
    return rows


class TestRowsOfRun(unittest.TestCase):
    def rows(self, text, inputs=(), visits=3000):
        program = read_program(text)
        found = rows_of_run(program, list(inputs), visits)
        self.assertIs(type(found), list)
        self.assertEqual(repr(found), repr(slow_rows(program, list(inputs), visits)))
        return found

    def test_without_visits(self):
        self.assertEqual(self.rows("def main()\nend\n"), [])
        self.assertEqual(self.rows("def main()\n  main()\nend\n", (), 0), [])

    def test_values(self):
        text = """\
global a: 0..7
global b: 0..100
def main()
  var c: flag
  var d: -50..50
  var e: 2..3
  a = 5
  b = 60
  c = true
  d = -3
  a = 6
end
"""
        def row(place, values, numbers):
            return ("main", ((0,), ()), place, (values, ()), (*numbers, 0))

        wanted = [row(0, (0, False, 2), (0, 0)), row(1, (5, False, 2), (0, 0)),
                  row(2, (5, False, 2), (60, 0)), row(3, (5, True, 2), (60, 0)),
                  row(4, (5, True, 2), (60, -3))]
        self.assertEqual(repr(self.rows(text)), repr(wanted))
        for visits in range(8):
            self.assertEqual(self.rows(text, (), visits), wanted[:visits])

    def test_a_visit_with_a_fault_is_one_of_the_rows(self):
        text = "global a: 0..7\ndef main()\n  a = input\n  a = (a + 5)\n  a = 0\nend\n"
        for inputs, count in (([2], 3), ([3], 2)):
            rows = self.rows(text, inputs)
            self.assertEqual(len(rows), count)
            self.assertEqual(rows[:2], [("main", ((0,), ()), 0, ((0,), ()), ()),
                                        ("main", ((0,), ()), 1, ((inputs[0],), ()), ())])

    def test_first_values_of_large_globals_and_parameters(self):
        text = WORLD + """\
def work(n: 0..50, m: 0..3, k: 0..60): 0..100
  var own: 0..90
  n = (n + 1)
  total = 7
  own = 80
  return own
end
def main()
  total = 11
  total = work(20, 2, 33)
  total = 0
end
"""
        rows = [row[0:1] + row[2:] for row in self.rows(text)]
        nothing = ((None,), ())
        in_work = ((None, 2), ())
        self.assertEqual(rows, [
            ("main", 0, nothing, (0, 0)),
            ("main", 1, nothing, (11, 0)),
            ("work", 0, in_work, (11, 20, 33, 0, 11, 20, 33)),
            ("work", 1, in_work, (11, 21, 33, 0, 11, 20, 33)),
            ("work", 2, in_work, (7, 21, 33, 0, 11, 20, 33)),
            ("work", 3, in_work, (7, 21, 33, 80, 11, 20, 33)),
            ("main", 2, nothing, (80, 0)),
        ])

    def test_fixed_records(self):
        text = WORLD + """\
def work(t: tree)
  var old: leaf
  old = t.left
  t.left = null
  old.n = 3
  free t
  t = null
  t = new
end
def main()
  var t: tree
  var l: leaf
  t = new
  l = new
  t.left = l
  l = null
  last = t
  work(t)
  t = null
end
"""
        rows = self.rows(text)
        leaf, full = ("leaf", True, (0,)), ("tree", True, (1, None))
        entry = ((0, 0), (full, leaf))
        self.assertEqual([row[2:4] for row in rows if row[0] == "work"], [
            (0, ((0, 0, None), (full, leaf))),
            (1, ((0, 0, 1), (full, leaf))),
            (2, ((0, 0, 1), (("tree", True, (None, None)), leaf))),
            (3, ((0, 0, 1), (("tree", True, (None, None)), ("leaf", True, (3,))))),
            (4, ((0, 0, 1), (("tree", False, ()), ("leaf", True, (3,))))),
            (5, ((0, None, 1), (("tree", False, ()), ("leaf", True, (3,))))),
        ])
        self.assertEqual({row[1] for row in rows if row[0] == "work"}, {entry})
        # In main no record is fixed, so that the leaf is no longer seen when the tree is gone.
        self.assertEqual(rows[-1], ("main", ((None,), ()), 6, ((0, 0, None), (("tree", False, ()),)), (0, 0)))

    def test_fixed_records_that_nobody_else_sees(self):
        text = WORLD + """\
def work(l: leaf)
  l.n = 2
  l = null
  l = null
  l = new
  l.n = 1
  l = null
end
def main()
  var l: leaf
  l = new
  work(l)
  work(null)
end
"""
        rows = self.rows(text)
        keys = [row[3] for row in rows if row[0] == "work" and row[1][1]]
        old = ("leaf", True, (2,))
        self.assertEqual(keys, [
            ((None, 0), (("leaf", True, (0,)),)), ((None, 0), (old,)), ((None, None), (old,)),
            ((None, None), (old,)), ((None, 1), (old, ("leaf", True, (0,)))),
            ((None, 1), (old, ("leaf", True, (1,)))),
        ])
        keys = [row[3] for row in rows if row[0] == "work" and not row[1][1]]
        self.assertEqual(keys, [((None, None), ())])

    def test_recursion(self):
        text = WORLD + """\
def work(n: 0..20, l: leaf): leaf
  var own: leaf
  if (0 < n)
    own = new
    own = work((n - 1), own)
  end
  return l
end
def main()
  var l: leaf
  l = work(2, null)
end
"""
        rows = self.rows(text)
        leaf = ("leaf", True, (0,))
        none, one = ((None, None), ()), ((None, 0), (leaf,))
        self.assertEqual([(row[1], row[2], row[3], row[4]) for row in rows if row[0] == "work"], [
            (none, 0, ((None, None, None), ()), (0, 2, 0, 2)),
            (none, 1, ((None, None, None), ()), (0, 2, 0, 2)),
            (none, 2, ((None, None, 0), (leaf,)), (0, 2, 0, 2)),
            (one, 0, ((None, 0, None), (leaf,)), (0, 1, 0, 1)),
            (one, 1, ((None, 0, None), (leaf,)), (0, 1, 0, 1)),
            (one, 2, ((None, 0, 1), (leaf, leaf)), (0, 1, 0, 1)),
            (one, 0, ((None, 0, None), (leaf,)), (0, 0, 0, 0)),
            (one, 3, ((None, 0, None), (leaf,)), (0, 0, 0, 0)),
            (one, 3, ((None, 0, 1), (leaf, leaf)), (0, 1, 0, 1)),
            (none, 3, ((None, None, 0), (leaf,)), (0, 2, 0, 2)),
        ])

    def test_frames_one_after_the_other(self):
        # Each call of the same function gets its own entry; one without statements has no visit.
        text = "global a: 0..7\ndef empty()\nend\ndef up()\n  a = (a + 1)\nend\n" \
               "def main()\n  up()\n  empty()\n  up()\nend\n"
        self.assertEqual([row[:4] for row in self.rows(text)], [
            ("main", ((0,), ()), 0, ((0,), ())), ("up", ((0,), ()), 0, ((0,), ())),
            ("main", ((0,), ()), 1, ((1,), ())), ("main", ((0,), ()), 2, ((1,), ())),
            ("up", ((1,), ()), 0, ((1,), ())),
        ])

    def test_deep_frames(self):
        rows = self.rows("def main()\n  main()\nend\n", (), 500)
        self.assertEqual(rows, [("main", ((), ()), 0, ((), ()), ())] * 500)
        program = read_program("global a: 0..9\ndef main()\n  a = 0\n  main()\nend\n")
        rows = rows_of_run(program, [], 3000)
        self.assertEqual(len(rows), 3000)
        self.assertEqual(rows[-1], ("main", ((), ()), 1, ((), ()), (0, 0)))

    def test_more_visits_than_there_are(self):
        text = "global a: 0..7\ndef main()\n  a = input\n  a = input\nend\n"
        self.assertEqual(len(self.rows(text, [1, 2], 3000)), 2)
        self.assertEqual(len(self.rows(text, [1, 2], 2)), 2)
        self.assertEqual(len(self.rows(text, [1, 2], 1)), 1)

    def test_program_of_the_document(self):
        rows = rows_of_run(DOOR, [], 3)
        shut = ("door", True, (False,))
        self.assertEqual(repr(rows), repr([
            ("main", ((None,), ()), 0, ((None, None), ()), ()),
            ("main", ((None,), ()), 1, ((None, 0), (shut,)), ()),
            ("main", ((None,), ()), 2, ((None, 0), (shut,)), ()),
        ]))
        self.assertEqual(rows_of_run(DOOR, [], 4)[3],
                         ("shut", ((None, 0, 2), (shut,)), 0, ((None, 0, 2, False), (shut,)), ()))

    def test_inputs_are_not_changed(self):
        program = read_program("global a: 0..7\ndef main()\n  a = input\n  a = input\nend\n")
        inputs = [1]
        rows = rows_of_run(program, inputs, 9)
        rows.append(3)
        self.assertEqual(inputs, [1])
        self.assertEqual(len(rows_of_run(program, inputs, 9)), 2)

    def test_programs_by_chance(self):
        for seed in range(250):
            program = RightMaker(seed).program()
            inputs = [5, -3, 8]
            rows = rows_of_run(program, inputs, 80)
            self.assertEqual(repr(rows), repr(slow_rows(program, inputs, 80)))
            self.assertEqual(len(rows), run(program, inputs, 80)[1])


if __name__ == "__main__":
    unittest.main()
