"""Points 62, 63 and 65: analyses, and that their rows describe all that runs come to."""

import unittest

from neverhappens.analysis import Analysis, analyse
from neverhappens.checker import accepts
from neverhappens.errors import BadKind, NeverError, Twice, Unknown, WrongKind
from neverhappens.reading import read_program
from neverhappens.rules import Rules
from neverhappens.tables import first_table, lower
from neverhappens.zones import is_inside
from tests.exploring import levels
from tests.following import met_rows
from tests.making import CarefulMaker, FreeMaker, NumberMaker, PlainMaker, RightMaker
from tests.samples import DOOR, EMPTY
from tests.tabling import ids_of, is_covered
from tests.test_tables import LOOP, RECORDS, RECURSION, TEXTS, programs

# The first table has a row at the last statement that only rounding makes possible.
LEFT_OUT = """\
def main()
  var x: 0..1000
  while (x < 500)
    x = (x + 3)
  end
  if (x == ((250 * 2) + 5))
    x = 3
  end
end
"""


class TestAttributes(unittest.TestCase):
    def test_as_passed(self):
        for limit, rounds in ((200, 2), (1, 0), (600, 4)):
            analysis = analyse(DOOR, limit=limit, rounds=rounds)
            self.assertIsInstance(analysis, Analysis)
            self.assertEqual((analysis.program, analysis.limit, analysis.rounds), (DOOR, limit, rounds))
            self.assertEqual(analysis.kept, ())

    def test_numbers_without_arguments(self):
        analysis = analyse(DOOR)
        self.assertEqual((analysis.limit, analysis.rounds), (200, 2))
        self.assertEqual(analysis.rows, analyse(DOOR, limit=200, rounds=2, picks=()).rows)

    def test_first_and_rows(self):
        for program in programs()[:80]:
            rules = Rules(program)
            table = first_table(rules, 60, ())
            for rounds in range(5):
                analysis = analyse(program, limit=60, rounds=rounds)
                if table is None:
                    self.check_cut(analysis)
                    break
                self.assertIs(analysis.cut, False)
                self.assertEqual(analysis.first, first_table(rules, 60, ()))
                self.assertEqual(repr(analysis.rows), repr(table))
                table = lower(rules, table)

    def check_cut(self, analysis):
        self.assertIs(analysis.cut, True)
        self.assertEqual((analysis.first, analysis.rows, analysis.kept), ((), (), ()))
        self.assertEqual((len(analysis), list(analysis)), (0, []))
        self.assertNotIn(Rules(analysis.program).start()[:4], analysis)

    def test_limits(self):
        for text in TEXTS:
            program = read_program(text)
            many = len(analyse(program, limit=600).first)
            self.assertIs(analyse(program, limit=many).cut, False)
            self.assertIs(analyse(program, limit=many + 1).cut, False)
            self.check_cut(analyse(program, limit=many - 1))
            self.check_cut(analyse(program, limit=1, rounds=4, picks=(3,)))

    def test_picks_change_nothing(self):
        for text in TEXTS:
            program = read_program(text)
            for picks in ((1,), (0, 9, 4), (10 ** 40,)):
                one, other = analyse(program), analyse(program, picks=picks)
                self.assertEqual((one.first, one.rows), (other.first, other.rows))

    def test_rows_are_left_out(self):
        program = read_program(LEFT_OUT)
        first = analyse(program, rounds=0)
        self.assertEqual(first.rows, first.first)
        self.assertEqual([row[2] for row in first.first], [0, 1, 2, 3, 4])
        behind = []
        for rounds in range(5):
            analysis = analyse(program, rounds=rounds)
            self.assertEqual(analysis.first, first.first)
            (box,) = [row[4] for row in analysis.rows if row[2] == 2]
            behind.append((-box[0][1], box[1][0]))
            self.assertEqual([row[2] for row in analysis.rows], [0, 1, 2, 3, 4] if rounds < 3 else [0, 1, 2, 4])
        # The head is rounded from 502 to 999; each round undoes this one row further.
        self.assertEqual(behind, [(500, 999), (500, 999), (500, 502), (500, 502), (500, 502)])

    def test_rounds_leave_boxes_or_make_them_smaller(self):
        smaller = 0
        for text in TEXTS:
            before = analyse(read_program(text), rounds=0).rows
            for rounds in range(1, 5):
                rows = analyse(read_program(text), rounds=rounds).rows
                boxes = {row[:4]: row[4] for row in before}
                for row in rows:
                    self.assertTrue(is_inside(row[4], boxes[row[:4]]))
                smaller += rows != before
                before = rows
        self.assertGreater(smaller, 2)


class TestErrors(unittest.TestCase):
    def test_programs_that_are_refused(self):
        main = ("main", (), None, (), ())
        for program, error in (
            (EMPTY, Unknown), (((), (), (), (main, main)), Twice),
            (((), (), (("a", ("num", 2, 1)),), (main,)), BadKind),
            (((), (), (), (("main", (), ("flag",), (), ()),)), WrongKind),
            (((), (), (), (("main", (), None, (), (("break",),)),)), WrongKind),
        ):
            with self.assertRaises(error):
                analyse(program)
            with self.assertRaises(error):
                analyse(program, limit=1, rounds=0, picks=(1,))

    def test_programs_by_chance(self):
        for seed in range(100):
            program = FreeMaker(seed).program()
            with self.assertRaises(NeverError):
                analyse(program, limit=5)


class TestAsCollection(unittest.TestCase):
    def test_len_and_iteration(self):
        for text in TEXTS:
            analysis = analyse(read_program(text), rounds=1)
            self.assertEqual(len(analysis), len(analysis.rows))
            self.assertEqual(tuple(analysis), analysis.rows)
            self.assertEqual([row for row in analysis], list(analysis.rows))
            self.assertEqual(tuple(iter(analysis)), analysis.rows)

    def test_in(self):
        analysis = analyse(read_program(LOOP))
        for row in analysis.rows:
            self.assertTrue(row[:4] in analysis)
            name, entry, place, key = row[:4]
            wanted = ids_of(analysis.rows)
            for other in (
                ("main", entry, place, key), ("add", entry, place, key), ("idle", entry, place, key),
                ("nothing", entry, place, key), (name, entry, place + 1, key), (name, entry, -1, key),
                (name, ((True, 3), ()), place, key), (name, entry, place, ((False, 0), ())),
                (name, entry, place, (key[0], (("leaf", False, ()),))),
            ):
                self.assertEqual(other in analysis, other in wanted)
                self.assertIsInstance(other in analysis, bool)

    def test_in_asks_for_rows_and_not_for_first(self):
        program = read_program(LEFT_OUT)
        (row,) = [row for row in analyse(program).first if row[2] == 3]
        self.assertIn(row[:4], analyse(program, rounds=0))
        self.assertNotIn(row[:4], analyse(program, rounds=3))


class TestRuns(unittest.TestCase):
    def check(self, program, visits, most=300, limit=300):
        """Returns the number of rows of runs that were looked for."""
        seen = 0
        rules = Rules(program)
        analyses = [analyse(program, limit=limit, rounds=rounds) for rounds in (0, 4)]
        if analyses[0].cut:
            return 0
        lists = {inputs: True for level in levels(program, visits, most) for inputs, _, _ in level}
        for inputs in lists:
            for row in met_rows(self, program, rules, list(inputs), visits):
                self.assertTrue(is_covered(row, analyses[0].first), row)
                for analysis in analyses:
                    self.assertTrue(is_covered(row, analysis.rows), row)
                seen += 1
        return seen

    def test_programs(self):
        for text in (*TEXTS, LEFT_OUT):
            self.assertGreater(self.check(read_program(text), 14, 40), 12)
        self.assertGreater(self.check(DOOR, 30), 30)

    def test_long_runs(self):
        for text in (LOOP, RECURSION, RECORDS, LEFT_OUT):
            program = read_program(text)
            analysis = analyse(program, limit=600)
            for inputs in ([2] * 40, [1] * 60, [1, 0, 1, 1, 0]):
                for row in met_rows(self, program, Rules(program), inputs, 200):
                    self.assertTrue(is_covered(row, analysis.rows), row)

    def test_programs_by_chance(self):
        seen = 0
        for seed in range(40):
            for maker in (CarefulMaker, NumberMaker, PlainMaker, RightMaker):
                seen += self.check(maker(seed).program(), 9, 12)
        self.assertGreater(seen, 3000)

    def test_tables_of_analyses_are_accepted(self):
        for program in programs()[:100]:
            analysis = analyse(program, limit=80, rounds=3)
            if not analysis.cut:
                self.assertIs(accepts(program, analysis.first), True)
                self.assertIs(accepts(program, analysis.rows), True)


if __name__ == "__main__":
    unittest.main()
