"""Points 24 to 29."""

import unittest

from neverhappens.plain import Machine, run
from tests.running import RunCases


class TestMachine(RunCases, unittest.TestCase):
    made = Machine

    def ran(self, program, inputs, visits):
        return run(program, inputs, visits)


if __name__ == "__main__":
    unittest.main()
