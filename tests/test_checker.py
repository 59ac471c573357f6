"""Points 64 and 65: which certificates are accepted."""

import random
import unittest

from neverhappens.analysis import analyse
from neverhappens.checker import accepts
from neverhappens.reading import read_program
from neverhappens.rules import Rules
from neverhappens.zones import join_boxes, range_box
from tests.making import CarefulMaker, NumberMaker, PlainMaker
from tests.samples import DOOR
from tests.slow import NO_COLUMNS
from tests.tabling import is_covered, slow_leads
from tests.test_tables import LOOP, RECORDS, RECURSION, TEXTS

GONE = ("leaf", False, ())

# All kinds of values in an entry and a key, with large numbers in the box.
KINDS = """\
record leaf
  n: 0..2
  f: flag
end
record pair
  one: leaf
end
global p: pair
global big: -20..50
def use(l: leaf, k: 0..3, n: 0..99): 0..40
  big = n
  return 7
end
def spare(l: leaf, k: 0..3, n: 0..99): 0..40
  assert false
end
def main()
  var l: leaf
  var r: 0..40
  p = new
  l = new
  p.one = l
  r = use(l, 2, 30)
end
"""


def changed(rows, at, part, value):
    """The rows with another value for one part of one row."""
    row = list(rows[at])
    row[part] = value
    return (*rows[:at], tuple(row), *rows[at + 1:])


def replaced(matrix, i, j, value):
    """The matrix with another entry."""
    rows = [list(row) for row in matrix]
    rows[i][j] = value
    return tuple(map(tuple, rows))


class CheckerCase(unittest.TestCase):
    def setUp(self):
        self.program = read_program(KINDS)
        self.rows = analyse(self.program).rows
        # The row where `use` begins: four records and three columns with the numbers that are kept.
        self.at = next(at for at, row in enumerate(self.rows) if row[0] == "use" and row[2] == 0)
        self.row = self.rows[self.at]
        # No row leads to these two, and they lead to none.
        entry = self.row[1]
        wide = range_box(((-20, 50), (0, 99)) * 2)
        self.spare = ("spare", entry, 0, entry, wide)
        self.ended = ("spare", entry, 1, ((0,), entry[1]), range_box(((-20, 50), (0, 40), (-20, 50), (0, 99))))

    def refused(self, part, value):
        """The rows are accepted, and no longer with another value at one place."""
        self.assertIs(accepts(self.program, (*self.rows, self.spare, self.ended)), True)
        self.assertIs(accepts(self.program, changed(self.rows, self.at, part, value)), False, value)
        # Nor are they if nothing else can be wrong than the form of the row.
        for row in (self.spare, self.ended):
            self.assertIs(accepts(self.program, (*self.rows, *changed((row,), 0, part, value))), False, value)


class TestAccepted(unittest.TestCase):
    def test_tables_in_any_order(self):
        for text in TEXTS:
            program = read_program(text)
            for rounds in (0, 2):
                rows = list(analyse(program, rounds=rounds).rows)
                for seed in range(3):
                    random.Random(seed).shuffle(rows)
                    self.assertIs(accepts(program, tuple(rows)), True)

    def test_programs_by_chance(self):
        seen = 0
        for seed in range(30):
            for maker in (CarefulMaker, NumberMaker, PlainMaker):
                program = maker(seed).program()
                analysis = analyse(program, limit=100)
                if not analysis.cut:
                    seen += len(analysis)
                    self.assertIs(accepts(program, analysis.first), True)
                    self.assertIs(accepts(program, tuple(reversed(analysis.rows))), True)
        self.assertGreater(seen, 1000)

    def test_more_than_is_needed(self):
        """Wider boxes and rows to which nothing leads are no fault, as long as they lead to rows."""
        program = read_program("global a: 0..20\ndef main()\n  a = 3\n  a = 4\nend\n")
        rules = Rules(program)
        wide = range_box(rules.layouts["main"].ranges)
        start = rules.start()
        rows = [(*start[:2], place, ((), ()), wide) for place in (0, 1, 2)]
        self.assertEqual([len(row[4]) for row in rows], [3, 3, 3])
        self.assertIs(accepts(program, tuple(rows)), True)
        rows[2] = (*rows[2][:4], range_box(((0, 3), (0, 20))))
        self.assertIs(accepts(program, tuple(rows)), False)
        rows[2] = (*rows[2][:4], range_box(((4, 4), (0, 20))))
        self.assertIs(accepts(program, tuple(rows)), True)
        self.assertIs(accepts(program, tuple(rows[:2])), False)

    def test_a_function_that_is_never_called(self):
        program = read_program("def f()\n  f()\nend\ndef main()\nend\n")
        start = Rules(program).start()
        other = ("f", ((), ()), 0, ((), ()), NO_COLUMNS)
        self.assertIs(accepts(program, (start,)), True)
        self.assertIs(accepts(program, (other, start)), True)
        self.assertIs(accepts(program, (other,)), False)
        self.assertIs(accepts(program, ()), False)


class TestForm(CheckerCase):
    def test_the_row(self):
        name, entry, place, key, box = self.row
        self.assertEqual((name, place), ("use", 0))
        self.assertEqual(entry[0], (0, 1, 2))
        self.assertEqual(key, entry)
        self.assertEqual(len(box), 5)

    def test_values_that_are_no_tuples_of_rows(self):
        for rows in (
            None, True, False, 0, 7, -1, "", "use", (None,), (1,), ("use",), ((),), (("use",),), (((),),), self.row,
            (self.row[:4],), ((*self.row, 0),), (self.row, ()), ((self.rows,),), (self.rows,), ("abcde",),
        ):
            self.assertIs(accepts(self.program, rows), False, rows)
        deep = ()
        for _ in range(20):
            deep = (deep,)
        for part in range(5):
            self.refused(part, deep)
            self.refused(part, None)
            self.refused(part, "x")
        self.assertIs(accepts(self.program, deep), False)

    def test_lists(self):
        for rows in (list(self.rows), (list(self.row),), [()]):
            self.assertIs(accepts(self.program, rows), False)
        _, entry, _, key, box = self.row
        for part, value in (
            (1, list(entry)), (1, (list(entry[0]), entry[1])), (1, (entry[0], list(entry[1]))),
            (1, (entry[0], tuple(list(record) for record in entry[1]))), (3, list(key)),
            (3, (key[0], tuple((name, live, list(fields)) for name, live, fields in key[1]))),
            (4, list(box)), (4, tuple(list(row) for row in box)), (0, ["use"]), (2, [0]),
        ):
            self.refused(part, value)

    def test_functions(self):
        for name in ("other", "", "leaf", "big", 0, ("use",), True, None, "main", "Spare", "spare "):
            self.refused(0, name)

    def test_places(self):
        for place in (3, -1, 1000, True, False, "0", (0,), None):
            self.refused(2, place)

    def test_entries(self):
        values, records = self.row[1]
        for entry in (
            (), (values,), (values, records, ()), (values[:2], records), ((*values, 1), records),
            ((0, 1, 4), records), ((0, 1, -1), records), ((0, 1, True), records), ((1, 0, 2), records),
            ((0, 2, 2), records), ((None, 1, 2), records), ((0, 1, 2), records[:1]),
            ((0, 1, 2), (*records, ("leaf", False, ()))), ((True, 1, 2), records), ((False, 1, 2), records),
            (values, (records[0], ("leaf", True, (3, False)))), (values, (records[0], ("leaf", True, (0, 0)))),
            (values, (records[0], ("leaf", False, (0, False)))), (values, (records[0], ("leaf", True, ()))),
            (values, (records[0], ("other", True, (0, False)))), (values, (records[0], ("leaf", 1, (0, False)))),
            (values, (records[0], "leaf")), (values, (("pair", True, (0,)), records[1])),
        ):
            self.refused(1, entry)

    def test_keys(self):
        values, records = self.row[3]
        for key in (
            (), (values,), (values, records, ()), (values[:2], records), ((0, 1, 4), records), ((*values, 0), records),
            ((0, 1, True), records), ((0, 1, 2), records[:1]), ((1, 0, 2), records), (values, records[:1]),
            (values, ()), (values, (records[0], ("leaf", True, (3, False)))), (values, (records[0], ("leaf", False, (0, False)))),
            ((0, 1, 2), (*records, ("leaf", False, ()))),
        ):
            self.refused(3, key)

    def test_keys_at_the_exit(self):
        rows = (*self.rows, self.ended)
        at = len(self.rows)
        key = rows[at][3]
        self.assertEqual(key[0], (0,))
        for value in (((0, 1, 2), key[1]), ((None, 1), key[1]), ((), key[1]), ((0,), key[1][:1]), ((1,), key[1])):
            self.assertIs(accepts(self.program, changed(rows, at, 3, value)), False)
        # Instead of the global, the record may be null or the first one; both are fixed anyway.
        self.assertIs(accepts(self.program, changed(rows, at, 3, ((None,), key[1]))), True)
        for ranges in (
            ((-20, 50), (0, 40), (-20, 50)), ((-20, 50), (0, 41), (-20, 50), (0, 99)), ((-20, 50), (0, 99)) * 2,
        ):
            self.assertIs(accepts(self.program, changed(rows, at, 4, range_box(ranges))), False)

    def test_kinds_of_the_first_records(self):
        """The key is one, but its first record is not of the kind of the entry's first record."""
        text = "record a\n  n: 0..1\nend\nrecord b\n  n: 0..1\nend\nglobal x: a\ndef f(y: a)\n  x = y\nend\ndef main()\nend\n"
        program = read_program(text)
        start = Rules(program).start()
        one, other = ("a", True, (0,)), ("b", True, (0,))
        entry = ((None, 0), (one,))
        for key, wanted in (
            (((None, 0), (one,)), True), (((None, None), (("a", False, ()),)), True),
            (((None, None), (other,)), False), (((None, None), (("b", False, ()),)), False),
            (((None, 1), (other, one)), False), (((None, 1), (one, one)), True),
        ):
            ended = ((key[0][1],), key[1])
            rows = [start, ("f", entry, 0, key, NO_COLUMNS), ("f", entry, 1, ended, NO_COLUMNS)]
            self.assertIs(accepts(program, tuple(rows)), wanted, key)
        # Also where a record of another kind stands behind the right ones.
        both = ((0, 1), (one, ("a", True, (1,))))
        rows = [start, ("f", both, 1, ((0,), both[1]), NO_COLUMNS)]
        self.assertIs(accepts(program, tuple(rows)), True)
        rows[1] = ("f", both, 1, ((0,), (one, other)), NO_COLUMNS)
        self.assertIs(accepts(program, tuple(rows)), False)

    def test_boxes(self):
        box = self.row[4]
        size = len(box)
        for value in (
            (), (()), ((0,),), box[:-1], (*box, box[0]), tuple(row[:-1] for row in box), (*box[:-1], (*box[-1], 0)),
            tuple(row[1:] for row in box[1:]), (*box[:-1], ()), (*box[:-1], 0), "box", 5, True, None,
            tuple(map(str, box)),
        ):
            self.refused(4, value)
        for i in range(size):
            for value in (1, -1, False, True, None, "0", (0,)):
                self.refused(4, replaced(box, i, i, value))
            self.refused(4, replaced(box, i, (i + 1) % size, None))

    def test_true_as_a_number_in_a_box(self):
        """Columns that differ by 1, so that True would be the same matrix."""
        program = read_program("global a: 0..20\ndef main()\n  a = 1\nend\n")
        rows = analyse(program).rows
        self.assertEqual(rows[1][4], ((0, -1, 0), (1, 0, 1), (0, -1, 0)))
        self.assertIs(accepts(program, rows), True)
        for i, j, value in ((1, 0, True), (1, 2, True), (0, 0, False), (2, 0, False)):
            box = replaced(rows[1][4], i, j, value)
            self.assertEqual(box, rows[1][4])
            self.assertIs(accepts(program, changed(rows, 1, 4, box)), False)

    def test_matrices_that_are_not_closed(self):
        size = len(self.spare[4])
        for row in (self.spare, self.ended):
            wide = row[4]
            for i in range(size):
                for j in range(size):
                    for other in (wide[i][j] + 1, wide[i][j] + 100, wide[i][j] - 500):
                        if i != j:
                            self.refuse_box(row, replaced(wide, i, j, other))
            # Not closed, although there are points, and closed, although it is not so wide.
            self.refuse_box(row, replaced(wide, 1, 0, wide[1][0] - 1))
            least = range_box(tuple((-at, -at) for at in wide[0][1:]))
            self.assertIs(accepts(self.program, (*self.rows, (*row[:4], least))), True)
            for at in range(1, size):
                for change in (-1, 1):
                    ends = [(-wide[0][i], wide[i][0]) for i in range(1, size)]
                    low, high = ends[at - 1]
                    ends[at - 1] = (low - 1, high) if change < 0 else (low, high + 1)
                    self.refuse_box(row, range_box(tuple(ends)))

    def refuse_box(self, row, box):
        self.assertIs(accepts(self.program, (*self.rows, (*row[:4], box))), False, box)


class TestLeads(CheckerCase):
    def test_two_rows_with_one_id(self):
        for at, row in enumerate(self.rows):
            self.assertIs(accepts(self.program, (*self.rows, row)), False)
            self.assertIs(accepts(self.program, (*self.rows[:at], row, *self.rows[at:])), False)

    def test_each_row_left_out(self):
        for text in (*TEXTS, KINDS):
            program = read_program(text)
            rows = analyse(program).rows
            for at in range(len(rows)):
                self.assertIs(accepts(program, (*rows[:at], *rows[at + 1:])), False)

    def test_boxes_that_are_too_small(self):
        seen = 0
        for text in (LOOP, RECURSION, KINDS):
            program = read_program(text)
            rules = Rules(program)
            rows = analyse(program, rounds=2).rows
            for at, row in enumerate(rows):
                point = tuple((-row[4][0][i],) * 2 for i in range(1, len(row[4])))
                if row[4] == range_box(point):
                    continue
                cut = changed(rows, at, 4, range_box(point))
                wanted = all(is_covered(led, cut) for led in [rules.start(), *[led for led, _, _ in slow_leads(rules, cut)]])
                self.assertIs(accepts(program, cut), wanted)
                seen += not wanted
        self.assertGreater(seen, 20)

    def test_rows_that_were_made_wider(self):
        """A box that is joined with the whole range is accepted only if it leads to nothing new."""
        answers = []
        for text in (LOOP, RECORDS, KINDS):
            program = read_program(text)
            rules = Rules(program)
            rows = analyse(program, rounds=0).rows
            for at, row in enumerate(rows):
                layout = rules.layouts[row[0]]
                ranges = layout.exit_ranges if row[2] == layout.exit else layout.ranges
                wide = changed(rows, at, 4, join_boxes(row[4], range_box(ranges)))
                wanted = all(is_covered(led, wide) for led, _, _ in slow_leads(rules, wide))
                self.assertIs(accepts(program, wide), wanted)
                answers.append(wanted)
        self.assertEqual(sorted(set(answers)), [False, True])

    def test_the_start_alone_left_out(self):
        rows = analyse(DOOR).rows
        start = Rules(DOOR).start()
        self.assertIn(start, rows)
        self.assertIs(accepts(DOOR, tuple(row for row in rows if row != start)), False)

    def test_ends_of_calls(self):
        """The row behind a call is needed only as long as the end of the called frame is there."""
        program = read_program("def f()\n  return\nend\ndef main()\n  f()\n  assert false\nend\n")
        rows = analyse(program).rows
        self.assertEqual([row[:1] + row[2:3] for row in rows], [("f", 0), ("f", 1), ("main", 0), ("main", 1)])
        self.assertIs(accepts(program, rows), True)
        self.assertIs(accepts(program, rows[:3]), False)


if __name__ == "__main__":
    unittest.main()
