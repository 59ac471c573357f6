"""Points 79 to 83: witnesses."""

import unittest

from neverhappens.analysis import analyse
from neverhappens.describing import rows_of_run
from neverhappens.errors import BadWitness, NoSite, NotPlain, TooLong
from neverhappens.plain import Machine, run
from neverhappens.reading import read_program
from neverhappens.rules import Rules
from neverhappens.sites import sites
from neverhappens.verdicts import report, verdict
from neverhappens.witnesses import find_witness, witness_inputs, witness_rows, witness_visits
from tests.exploring import is_exit, met
from tests.making import CarefulMaker, GentleMaker, PlainMaker, TinyMaker
from tests.samples import DOOR
from tests.test_tables import LOOP, RECORDS
from tests.test_verdicts import CALLS, DOUBLING

# Inputs in main and in functions within each other.
INPUTS = """\
global g: 0..5
global b: flag
def low(k: 0..5): 0..5
  var n: 0..5
  n = input
  b = input
  return n
end
def high(): 0..5
  var n: 2..7
  n = input
  g = low(1)
  return g
end
def main()
  var x: 0..5
  x = input
  x = high()
  g = low(x)
  assert (x != 3)
end
"""

START = ("start",)

# Main reads 4, then `high` reads 1, `low` within it 3 and 1, and `low` reads 0 and 0.
LINES = (
    START, ("step", 0, 4), ("enter", 1), ("step", 2, 1), ("enter", 3), ("step", 4, 3), ("step", 5, 1), ("step", 6, None),
    ("back", 3, 7), ("step", 8, None), ("back", 1, 9), ("enter", 10), ("step", 11, 0), ("step", 12, 0), ("step", 13, None),
    ("back", 10, 14),
)


class WitnessCase(unittest.TestCase):
    def bad(self, program, witness, line):
        for asked in (witness_rows, witness_visits, witness_inputs):
            with self.assertRaises(BadWitness, msg=witness) as caught:
                asked(program, witness)
            self.assertEqual(caught.exception.line, line, witness)

    def check_run(self, program, witness):
        """The run with the whole inputs is, after the whole visits, in what the last line tells."""
        rules = Rules(program)
        found = witness_rows(program, witness)[-1]
        inputs, visits = witness_inputs(program, witness), witness_visits(program, witness)
        self.assertIs(type(inputs), list)
        told = [(row[:4], whole) for row, whole, _ in met(rules, inputs, visits + 1)]
        self.assertIn((found, visits), told)
        if not is_exit(rules, found):
            self.assertEqual(rows_of_run(program, inputs, visits + 1)[visits][:4], found)
            machine = Machine(program, inputs)
            for _ in range(visits):
                machine.visit()
            self.assertEqual((machine.visits, machine.reads), (visits, len(inputs)))


class TestLines(WitnessCase):
    def setUp(self):
        self.program = read_program(INPUTS)

    def test_each_line_of_a_witness(self):
        ids = witness_rows(self.program, LINES)
        self.assertIs(type(ids), list)
        self.assertEqual([found[0] + str(found[2]) for found in ids], (
            "main0 main1 high0 high1 low0 low1 low2 low3 high2 high3 main2 low0 low1 low2 low3 main3".split()))
        self.assertEqual(ids[-1][3], ((0, False, 3), ()))
        visits = [0, 1, 2, 3, 4, 5, 6, 7, 7, 8, 8, 9, 10, 11, 12, 12]
        inputs = [[], [4], [4], [4, 1], [4, 1], [4, 1, 3], [4, 1, 3, 1], [4, 1, 3, 1], [4, 1, 3, 1], [4, 1, 3, 1], [4, 1, 3, 1],
                  [4, 1, 3, 1], [4, 1, 3, 1, 0], [4, 1, 3, 1, 0, 0], [4, 1, 3, 1, 0, 0], [4, 1, 3, 1, 0, 0]]
        for at in range(len(LINES)):
            part = LINES[:at + 1]
            self.assertEqual(witness_rows(self.program, part), ids[:at + 1])
            self.assertEqual(witness_visits(self.program, part), visits[at])
            self.assertEqual(witness_inputs(self.program, part), inputs[at])
            self.check_run(self.program, part)

    def test_ends_that_belong_to_another_call(self):
        """The end of `low` in another call with the same entry, and its inputs, may be used again."""
        program = read_program("global b: flag\ndef low(): 0..5\n  var n: 0..5\n  n = input\n  return n\nend\ndef main()\n  var x: 0..5\n  var y: 0..5\n  x = low()\n  x = 0\n  y = low()\n  y = low()\n  b = input\nend\n")
        witness = (START, ("enter", 0), ("step", 1, 5), ("step", 2, None), ("back", 0, 3), ("step", 4, None), ("back", 5, 3), ("back", 6, 3))
        self.assertEqual([found[2] for found in witness_rows(program, witness)], [0, 0, 1, 2, 1, 2, 3, 4])
        self.assertEqual(witness_inputs(program, witness), [5, 5, 5])
        self.assertEqual(witness_visits(program, witness), 10)
        self.check_run(program, witness)
        # The root of the last line is the start, not the call in which the end was found.
        again = (*witness, ("enter", 6), ("step", 8, 2))
        self.assertEqual(witness_inputs(program, again), [5, 5, 2])
        self.assertEqual(witness_visits(program, again), 9)
        self.check_run(program, again)

    def test_no_line(self):
        self.assertEqual(witness_rows(self.program, ()), [])
        for asked in (witness_visits, witness_inputs):
            with self.assertRaises(BadWitness) as caught:
                asked(self.program, ())
            self.assertEqual(caught.exception.line, 0)
        with self.assertRaises(BadWitness):
            witness_inputs(self.program, (), most=0)

    def test_not_plain(self):
        for witness in ((), (START,), (1,), ((),)):
            for asked in (witness_rows, witness_visits, witness_inputs):
                with self.assertRaises(NotPlain):
                    asked(read_program(LOOP), witness)

    def test_values_that_are_no_lines(self):
        deep = ()
        for _ in range(19):
            deep = (deep,)
        for line in (
            None, True, False, 0, 7, "", "start", (), ((),), (None,), ("begin",), ("start", 0), ("start", None), (START,), ("step",),
            ("step", 0), ("step", 0, 4, 0), ("step", None, 4), ("step", True, 4), ("step", False, 4), ("step", "0", 4), ("step", (0,), 4),
            ("step", -1, 4), ("step", 1, 4), ("step", 2, 4), ("step", 100, 4), ("enter",), ("enter", 0, 0), ("enter", None), ("back",),
            ("back", 0), ("back", 0, 0, 0), ("back", None, 0), (0, "step", 4), ("STEP", 0, 4), ("step", 0, deep), (deep, 0, 4), deep,
            (1, 2, 3), ("start", "start"), ("enter", deep), ("back", deep, deep),
        ):
            self.bad(self.program, (START, line), 1)
            self.bad(self.program, (START, line, line), 1)
            self.bad(self.program, (START, ("step", 0, 4), line if line != ("step", 1, 4) else 0), 2)
            self.bad(self.program, (*LINES, START, line if not isinstance(line, tuple) else None), len(LINES) + 1)
            if line != START:
                self.bad(self.program, (line, START), 0)

    def test_cells(self):
        for cell in (0, 1, 5):
            self.assertEqual(witness_inputs(self.program, (START, ("step", 0, cell))), [cell])
        for cell in (-1, 6, None, True, False, "1", (1,), 10 ** 30):
            self.bad(self.program, (START, ("step", 0, cell)), 1)
        # A flag has two cells, and a range that does not begin at 0 counts its cells from 0.
        for cell in (0, 1):
            self.assertEqual(len(witness_rows(self.program, (*LINES[:6], ("step", 5, cell)))), 7)
        self.bad(self.program, (*LINES[:6], ("step", 5, 2)), 6)
        found = witness_rows(self.program, (*LINES[:3], ("step", 2, 1)))
        self.assertEqual(found[3][3][0][-1], 3)

    def test_cells_at_statements_that_are_no_inputs(self):
        for cell in (0, 1, -1, True, False, "", ()):
            self.bad(self.program, (*LINES[:7], ("step", 6, cell)), 7)
            self.bad(self.program, (*LINES[:9], ("step", 8, cell)), 9)

    def test_steps_from_calls_and_exits(self):
        for cell in (None, 0):
            self.bad(self.program, (START, ("step", 0, 4), ("step", 1, cell)), 2)
            self.bad(self.program, (*LINES[:8], ("step", 7, cell)), 8)

    def test_steps_with_faults(self):
        program = read_program("global g: 0..1\ndef f(k: 0..1)\nend\ndef main()\n  g = input\n  f((g + 1))\n  g = (g + 1)\n  g = (g + 1)\nend\n")
        self.bad(program, (START, ("step", 0, 1), ("enter", 1)), 2)
        right = (START, ("step", 0, 0), ("enter", 1), ("back", 1, 2), ("step", 3, None))
        self.assertEqual(len(witness_rows(program, right)), 5)
        self.check_run(program, right)
        self.bad(program, (*right, ("step", 4, None)), 5)

    def test_enter(self):
        for at in (0, 2, 4, 6, 7, 16, 15, -1):
            self.bad(self.program, (*LINES, ("enter", at)), 16)
        for at in (1, 3, 10):
            self.assertEqual(witness_rows(self.program, (*LINES, ("enter", at)))[-1][2], 0)

    def test_words_and_lengths(self):
        """Lines that would be right with another word, or without their last part."""
        for line in (
            ("enter", 1, 0), ("enter", 1, None), ("enter", 3, 7), ("back", 1), ("go", 1), ("step", 1), ("start", 1), ("enter",),
            ("go", 3, 7), ("back", 3, 7, 7), ("enter", 3, 7), ("step", 3, 7), ("go", 0, 4), ("start", 0, 4), ("step", 0, 4, None),
            ("back", 0, 4),
        ):
            self.bad(self.program, (*LINES, line), 16)

    def test_back(self):
        """Only the three calls and the ends of what they call, with the same entry, fit together."""
        ids = witness_rows(self.program, LINES)
        rules = Rules(self.program)
        rows = [(*found, ((0,),)) for found in ids]
        for i in range(-1, 17):
            for j in range(-1, 17):
                known = 0 <= i < 16 and 0 <= j < 16
                backs = rules.backs(rows[i], rows[j]) if known else ()
                if backs:
                    self.assertEqual(witness_rows(self.program, (*LINES, ("back", i, j)))[-1], backs[0][:4])
                else:
                    self.bad(self.program, (*LINES, ("back", i, j)), 16)
        self.assertEqual([(1, 9), (3, 7), (10, 14)], [
            (i, j) for i in range(16) for j in range(16) if rules.backs(rows[i], rows[j])])

    def test_lines_that_are_not_needed(self):
        witness = (*LINES, START, ("step", 16, 2), START)
        self.assertEqual(witness_visits(self.program, witness), 0)
        self.assertEqual(witness_inputs(self.program, witness), [])
        self.assertEqual(witness_inputs(self.program, witness[:-1]), [2])

    def test_ends_of_main(self):
        program = read_program("def main()\n  var f: flag\n  f = input\nend\n")
        for cell in (0, 1):
            witness = (START, ("step", 0, cell))
            self.assertEqual(witness_rows(program, witness)[1][2], 1)
            self.check_run(program, witness)
        self.bad(program, (START, ("step", 0, 0), ("step", 1, None)), 2)
        self.bad(program, (START, ("step", 0, 0), ("enter", 1)), 2)
        self.bad(program, (START, ("step", 0, 0), ("back", 0, 1)), 2)


class TestAmounts(WitnessCase):
    def test_most(self):
        program = read_program(INPUTS)
        for most in (6, 7, 2000):
            self.assertEqual(witness_inputs(program, LINES, most=most), [4, 1, 3, 1, 0, 0])
        for most in (5, 1, 0):
            with self.assertRaises(TooLong) as caught:
                witness_inputs(program, LINES, most=most)
            self.assertEqual(caught.exception.amount, 6)
        self.assertEqual(witness_inputs(program, (START,), most=0), [])
        with self.assertRaises(TooLong):
            witness_inputs(program, (START, ("step", 0, 0)), most=0)
        self.bad(program, (*LINES, 0), 16)
        with self.assertRaises(BadWitness):
            witness_inputs(program, (*LINES, 0), most=0)

    def doubling(self, levels, read):
        """A program in which each function calls the one below twice, and a witness of its end."""
        body = "  b = input\n" if read else "  b = true\n"
        texts = [f"global b: flag\ndef f0()\n{body}end\n"]
        texts += [f"def f{at}()\n  f{at - 1}()\n  f{at - 1}()\nend\n" for at in range(1, levels)]
        program = read_program("".join(texts) + f"def main()\n  f{levels - 1}()\n  b = input\nend\n")
        lines = [START]
        for at in range(levels):
            lines.append(("enter", at))
        # The second call of each level begins with b as the first one leaves it.
        lines.append(("step", levels, 0 if read else None))
        return program, lines

    def whole_doubling(self, levels, read):
        program, lines = self.doubling(levels, read)
        ended = len(lines) - 1
        for at in reversed(range(levels)):
            lines.append(("back", at, ended))
            if at:
                # With b as false the entry of the second call is that of the first one.
                lines.append(("back", len(lines) - 1, ended))
            ended = len(lines) - 1
        return program, tuple(lines)

    def test_far_too_long(self):
        program, witness = self.whole_doubling(120, True)
        self.assertEqual(witness_rows(program, witness)[-1][:1] + witness_rows(program, witness)[-1][2:3], ("main", 1))
        for most in (0, 2000, 2 ** 119 - 1):
            with self.assertRaises(TooLong) as caught:
                witness_inputs(program, witness, most=most)
            self.assertEqual(caught.exception.amount, 2 ** 119)
        self.assertEqual(witness_visits(program, witness), 2 ** 119 + sum(2 ** (119 - at) for at in range(120)))

    def test_many_visits_and_few_inputs(self):
        program, lines = self.whole_doubling(100, False)
        # b was false in the first calls, and is true afterwards: the entries differ.
        self.bad(program, lines, 103)
        text = DOUBLING.replace("def main()\n", "def main()\n  k = input\n").replace("  k = 2\n", "  k = input\n  k = 2\n")
        program = read_program(text)
        found = find_witness(analyse(program, limit=600), "main", 3, "range")
        self.assertEqual(witness_inputs(program, found), [0, 0])
        self.assertEqual(witness_visits(program, found) + 1, 2 ** 41 - 2 + 4)

    def test_long_lists(self):
        program, witness = self.whole_doubling(12, True)
        self.assertEqual(witness_inputs(program, witness, most=2048), [0] * 2048)
        with self.assertRaises(TooLong):
            witness_inputs(program, witness)
        program, witness = self.whole_doubling(11, True)
        self.assertEqual(witness_inputs(program, witness), [0] * 1024)
        self.check_run(program, witness)

    def test_many_lines(self):
        program = read_program("def main()\n  var k: 0..7\n  while true\n    k = input\n  end\nend\n")
        lines = [START]
        for at in range(600):
            lines.append(("step", 2 * at, None))
            lines.append(("step", 2 * at + 1, at % 8))
        self.assertEqual(witness_inputs(program, tuple(lines)), [at % 8 for at in range(600)])
        self.assertEqual(witness_visits(program, tuple(lines)), 1200)
        for at in range(600, 2001):
            lines += [("step", 2 * at, None), ("step", 2 * at + 1, 7)]
        self.assertEqual(len(witness_inputs(program, tuple(lines[:-1]))), 2000)
        with self.assertRaises(TooLong) as caught:
            witness_inputs(program, tuple(lines))
        self.assertEqual(caught.exception.amount, 2001)


class TestFindWitness(WitnessCase):
    def check(self, program):
        """Returns the number of faults that can happen."""
        analysis = analyse(program, limit=600)
        rules = Rules(program)
        found = 0
        for site, answer in report(analysis):
            witness = find_witness(analysis, *site)
            if answer[0] != "can":
                self.assertIsNone(witness)
                continue
            found += 1
            self.assertIs(type(witness), tuple)
            self.assertLessEqual(len(witness), len(analysis))
            self.assertEqual(witness_visits(program, witness) + 1, answer[1])
            last = witness_rows(program, witness)[-1]
            self.assertEqual((last[0], last[2]), site[:2])
            self.assertIn(site[2], rules.faults((*last, ((0,),))))
            self.assertEqual(len(set(witness_rows(program, witness))), len(witness))
            if answer[1] < 3000:
                inputs = witness_inputs(program, witness)
                self.assertEqual(run(program, inputs, answer[1]), (("fault", *site), answer[1], len(inputs)))
                self.check_run(program, witness)
        return found

    def test_programs(self):
        for text in (CALLS, RECORDS, INPUTS, DOUBLING):
            self.assertGreater(self.check(read_program(text)), 0)
        self.assertEqual(self.check(DOOR), 0)

    def test_programs_by_chance(self):
        found = 0
        for seed in range(60):
            found += self.check(TinyMaker(seed).program())
        for seed in range(12):
            for maker in (GentleMaker, PlainMaker):
                found += self.check(maker(seed).program())
        self.assertGreater(found, 60)

    def test_an_end_that_comes_as_early_as_what_is_behind_it(self):
        """Ends of calls within each other, which all come with the same visit."""
        text = "global g: 0..1\ndef c()\n  g = input\nend\ndef b()\n  c()\nend\ndef a()\n  b()\nend\ndef main()\n  a()\n  a()\n  g = (g + 1)\nend\n"
        self.assertEqual(self.check(read_program(text)), 1)

    def test_none(self):
        program = read_program("global a: 0..99\ndef main()\n  a = input\n  assert (a < 3)\nend\n")
        for analysis in (analyse(read_program(LOOP)), analyse(program), analyse(program, limit=2), analyse(DOOR, limit=2), analyse(DOOR)):
            for site in sites(analysis.program):
                self.assertIsNone(find_witness(analysis, *site))
        self.assertIn(("open",), [answer for _, answer in report(analyse(program))])

    def test_no_site(self):
        for analysis in (analyse(DOOR), analyse(DOOR, limit=1), analyse(read_program(LOOP))):
            for site in (("main", 0, "range"), ("none", 0, "range"), ("main", 99, "null"), ("main", -1, "null")):
                with self.assertRaises(NoSite) as caught:
                    find_witness(analysis, *site)
                error = caught.exception
                self.assertEqual((error.function, error.place, error.fault), site)

    def test_the_verdict_is_the_least_number(self):
        analysis = analyse(read_program(INPUTS), limit=600)
        self.assertEqual(verdict(analysis, "main", 3, "assert"), ("can", 13))
        witness = find_witness(analysis, "main", 3, "assert")
        self.assertEqual(witness_inputs(analysis.program, witness)[2], 3)


if __name__ == "__main__":
    unittest.main()
