"""Point 31."""

import unittest

from neverhappens.plain import Machine, run
from neverhappens.walking import Walker, walk
from tests.making import RightMaker
from tests.running import RunCases, told
from tests.samples import DOOR


class TestWalker(RunCases, unittest.TestCase):
    made = Walker

    def ran(self, program, inputs, visits):
        found = walk(program, inputs, visits)
        self.assertEqual(repr(found), repr(run(program, inputs, visits)))
        return found


class BothRuns:
    """A run of Walker and of Machine at once, which must tell the same."""

    def __init__(self, program, inputs):
        self.runs = (Walker(program, inputs), Machine(program, inputs))

    def both(self, ask):
        found, other = map(ask, self.runs)
        assert repr(found) == repr(other), (found, other)
        return found

    def visit(self):
        return self.both(lambda run: run.visit())

    def outcome(self):
        return self.both(lambda run: run.outcome())

    def state(self):
        return self.both(lambda run: run.state())

    @property
    def visits(self):
        return self.both(lambda run: run.visits)

    @property
    def reads(self):
        return self.both(lambda run: run.reads)


class TestBoth(RunCases, unittest.TestCase):
    """All the programs of the tests of runs, visit by visit."""

    made = BothRuns

    def ran(self, program, inputs, visits):
        return walk(program, inputs, visits)


class TestSameAnswers(unittest.TestCase):
    def test_program_of_the_document(self):
        walker, machine = Walker(DOOR, []), Machine(DOOR, [])
        for _ in range(50):
            self.assertEqual(told(walker), told(machine))
            walker.visit()
            machine.visit()

    def test_programs_by_chance(self):
        for seed in range(1000, 1300):
            program = RightMaker(seed).program()
            walker, machine = Walker(program, [3, -4, 5]), Machine(program, [3, -4, 5])
            for _ in range(80):
                self.assertEqual(told(walker), told(machine))
                walker.visit()
                machine.visit()
            self.assertEqual(walk(program, [3, -4, 5], 80), run(program, [3, -4, 5], 80))


class TestNoBodies(unittest.TestCase):
    def test_frames_keep_a_place_alone(self):
        walker = Walker(DOOR, [])
        for _ in range(4):
            walker.visit()
        for frame in walker.frames:
            for name, value in vars(frame).items():
                self.assertNotIsInstance(value, (list, tuple), name)


if __name__ == "__main__":
    unittest.main()
