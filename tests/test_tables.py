"""Points 58 to 61: the order of rows, what tables lead to, and the first table."""

import functools
import itertools
import random
import unittest

from neverhappens.landmarks import landmarks, round_box
from neverhappens.reading import read_program
from neverhappens.rules import Rules
from neverhappens.tables import first_table, lower, sort_rows
from neverhappens.zones import is_inside, range_box
from tests.making import CarefulMaker, NumberMaker, PlainMaker, RightMaker
from tests.samples import DOOR
from tests.slow import NO_COLUMNS
from tests.tabling import ids_of, slow_first, slow_lower, slow_sorted

# A loop over a large number, in a function that is called from two places and calls itself.
LOOP = """\
global sum: 0..1000
global done: flag
def add(n: 0..40, m: 0..3): 0..90
  var i: 0..90
  while (i < n)
    i = (i + 1)
    sum = (i + 4)
  end
  if (m == 0)
    i = add(3, 2)
  end
  return i
end
def idle()
  sum = 9
end
def main()
  var x: 0..90
  var k: 0..3
  k = input
  x = add(5, 1)
  if (k == 2)
    x = add((x - 2), 0)
    done = true
  end
  assert (x <= 7)
end
"""

# The end of `up` becomes wider after main's call of it was taken, as `up` calls itself.
RECURSION = """\
global deep: 0..50
def up(n: 0..9, more: flag): 0..30
  var r: 0..30
  if (not more)
    return n
  end
  more = input
  if (n < 9)
    r = up((n + 1), more)
    return (r + 1)
  end
  deep = (n + 20)
  return 1
end
def main()
  var x: 0..30
  x = up(0, true)
  assert (x <= 8)
  x = up(3, false)
end
"""

# Two ways lead to a head, with x before y and with y before x.
CROSS = """\
global x: 0..1000
global y: 0..1000
def main()
  var f: flag
  f = input
  if f
    x = 20
    y = 35
  else
    x = 700
    y = 690
  end
  f = true
  while f
    f = false
  end
end
"""

RECORDS = """\
record leaf
  n: 0..2
end
record pair
  one: leaf
  two: leaf
end
global held: pair
def swap(p: pair): leaf
  var a: leaf
  var b: leaf
  a = p.one
  b = p.two
  p.one = b
  p.two = a
  return a
end
def main()
  var l: leaf
  var p: pair
  var g: flag
  p = new
  l = new
  p.one = l
  g = input
  while g
    l = swap(p)
    held = p
    g = input
  end
  free p
  l = swap(held)
end
"""

TEXTS = (LOOP, RECURSION, CROSS, RECORDS)


@functools.cache
def programs():
    """Programs by name and by chance."""
    found = [DOOR, *[read_program(text) for text in TEXTS]]
    for seed in range(40):
        for maker in (CarefulMaker, NumberMaker, PlainMaker, RightMaker):
            found.append(maker(seed).program())
    return found


@functools.cache
def small_tables(most=60):
    """Pairs of the rules and the first table of the programs whose first tables are small."""
    found = []
    for program in programs():
        rules = Rules(program)
        table = first_table(rules, most, ())
        if table is not None:
            found.append((rules, table))
    return found


class TestSortRows(unittest.TestCase):
    def test_parts_in_order(self):
        second, first = ("main", "shut")
        entries = (((None, 10, 2), ()), ((None, -1, 2), ()), ((None, True, 2), ()))
        keys = (((10,), ()), ((-1,), ()), ((None,), ()), ((True,), ()), ((2,), ()), ((), (("door", False, ()),)))
        rows = [(name, entry, place, key, NO_COLUMNS) for name in (second, first) for entry in entries
                for place in (10, 9, 2) for key in keys]
        wanted = slow_sorted(DOOR, rows)
        self.assertEqual([row[0] for row in wanted], ["shut"] * 54 + ["main"] * 54)
        self.assertEqual([row[2] for row in wanted[:54]], [2] * 18 + [9] * 18 + [10] * 18)
        # By repr -1 comes before 10, None and True behind them, and 10 before 2.
        self.assertEqual([row[1][0][1] for row in wanted[:18]], [-1] * 6 + [10] * 6 + [True] * 6)
        self.assertEqual([row[3] for row in wanted[:6]], [
            ((), (("door", False, ()),)), ((-1,), ()), ((10,), ()), ((2,), ()), ((None,), ()), ((True,), ())])
        for seed in range(20):
            random.Random(seed).shuffle(rows)
            before = list(rows)
            self.assertEqual(repr(sort_rows(DOOR, tuple(rows))), repr(wanted))
            self.assertEqual(rows, before)

    def test_no_row_and_one_row(self):
        self.assertEqual(sort_rows(DOOR, ()), ())
        row = Rules(DOOR).start()
        self.assertEqual(sort_rows(DOOR, (row,)), (row,))

    def test_records_by_repr(self):
        keys = [((0,), (("door", True, (value,)),)) for value in (True, False)] + [((0,), (("door", False, ()),))]
        rows = [("main", ((), ()), 1, key, NO_COLUMNS) for key in keys]
        wanted = (rows[2], rows[1], rows[0])
        for order in itertools.permutations(rows):
            self.assertEqual(repr(sort_rows(DOOR, order)), repr(wanted))


class TestLower(unittest.TestCase):
    def test_first_tables(self):
        for rules, table in small_tables():
            self.assertEqual(repr(lower(rules, table)), repr(slow_lower(rules, table)))

    def test_tables_with_rows_left_out(self):
        seen = 0
        for at, (rules, table) in enumerate(small_tables()):
            chance = random.Random(at)
            for _ in range(4):
                part = tuple(row for row in table if chance.random() < 0.6)
                self.assertEqual(lower(rules, part), slow_lower(rules, part))
                seen += part != table
        self.assertGreater(seen, 200)

    def test_tables_with_other_boxes(self):
        seen = 0
        for rules, table in small_tables():
            for widest in (True, False):
                rows = []
                for row in table:
                    layout = rules.layouts[row[0]]
                    ranges = layout.exit_ranges if row[2] == layout.exit else layout.ranges
                    least = range_box(tuple((-row[4][0][i + 1],) * 2 for i in range(len(ranges))))
                    rows.append((*row[:4], range_box(ranges) if widest else least))
                changed = tuple(rows)
                self.assertEqual(lower(rules, changed), slow_lower(rules, changed))
                seen += changed != table
        self.assertGreater(seen, 60)

    def test_no_row(self):
        rules = Rules(DOOR)
        self.assertEqual(lower(rules, ()), (rules.start(),))

    def test_row_of_the_start(self):
        """The start is led to even if no row leads to it, and joined with what leads there."""
        rules = Rules(read_program("global a: 0..9\ndef main()\n  while true\n    a = input\n  end\nend\n"))
        start = rules.start()
        behind = (*start[:2], 1, *start[3:])
        self.assertEqual(lower(rules, (behind,)), ((*start[:4], ((0, 0, 0), (9, 0, 9), (0, 0, 0))),))
        only = (*start[:4], range_box(((4, 5), (0, 0))))
        self.assertEqual(lower(rules, (only,)), (start, (*behind[:4], only[4])))

    def test_one_join_of_several_rows(self):
        rules = Rules(read_program(CROSS))
        table = first_table(rules, 100, ())
        lowered = lower(rules, table)
        (row,) = [row for row in lowered if row[2] == 6 and row[3][0] == (True,) and row[4][1][0] == 20] or [None]
        self.assertIsNotNone(row)
        joined = [row for row in lowered if row[2] == 7]
        # f has become true, so that both ways have led to one id.
        self.assertEqual([row[3] for row in joined if row[3][0] == (True,)], [((True,), ())])
        (box,) = [row[4] for row in joined if row[3][0] == (True,)]
        self.assertEqual((box[0][1], box[1][0], box[1][2], box[2][1]), (-20, 700, 10, 15))

    def test_ids_to_which_only_two_rows_lead(self):
        rules = Rules(DOOR)
        table = first_table(rules, 100, ())
        without = tuple(row for row in table if row[:1] + row[2:3] != ("shut", 6))
        self.assertLess(len(without), len(table))
        behind = [row for row in lower(rules, table) if row[0] == "main" and row[2] == 1]
        self.assertEqual([row[3][0] for row in behind], [(0, 0), (None, 0)])
        fewer = [row for row in lower(rules, without) if row[0] == "main" and row[2] == 1]
        self.assertEqual([row[3][0] for row in fewer], [(None, 0)])

    def test_nothing_is_rounded(self):
        rules = Rules(read_program(LOOP))
        table = first_table(rules, 200, ())
        marks = {name: landmarks(layout) for name, layout in rules.layouts.items()}
        finer = 0
        for row in lower(rules, table):
            layout = rules.layouts[row[0]]
            ranges = layout.exit_ranges if row[2] == layout.exit else layout.ranges
            finer += round_box(row[4], ranges, marks[row[0]]) != row[4]
        self.assertGreater(finer, 0)

    def test_again_and_again(self):
        for rules, table in small_tables(40):
            for _ in range(4):
                smaller = lower(rules, table)
                boxes = {row[:4]: row[4] for row in table}
                for row in smaller:
                    self.assertTrue(is_inside(row[4], boxes[row[:4]]))
                table = smaller


class TestFirstTable(unittest.TestCase):
    def check(self, program, most=400):
        rules = Rules(program)
        wanted = slow_first(rules, most)
        if len(wanted) > most:
            self.assertIsNone(first_table(rules, most, ()))
            return 0
        self.assertEqual(repr(first_table(rules, most, ())), repr(wanted))
        return len(wanted)

    def test_programs(self):
        for text in TEXTS:
            self.assertGreater(self.check(read_program(text)), 3)
        self.assertGreater(self.check(DOOR), 3)

    def test_programs_by_chance(self):
        rows = 0
        for seed in range(40):
            for maker in (CarefulMaker, NumberMaker, PlainMaker, RightMaker):
                rows += self.check(maker(seed).program(), 70)
        self.assertGreater(rows, 1300)

    def test_it_leads_to_itself(self):
        for rules, table in small_tables():
            self.assertEqual(slow_lower(rules, table, True), table)

    def test_rounded_once_after_the_join(self):
        """At the while the join of both ways is rounded, which tells less than the rounded parts."""
        rules = Rules(read_program(CROSS))
        layout = rules.layouts["main"]
        marks = landmarks(layout)
        table = first_table(rules, 200, ())
        (row,) = [row for row in table if row[2] == 7 and row[3][0] == (True,)]
        parts = [(20, 35), (700, 690)]
        boxes = [range_box(tuple((at, at) for at in (*part, 0, 0))) for part in parts]
        rounded = [round_box(box, layout.ranges, marks) for box in boxes]
        apart = tuple(tuple(map(max, zip(*rows))) for rows in zip(*rounded))
        once = round_box(
            tuple(tuple(map(max, zip(*rows))) for rows in zip(*boxes)), layout.ranges, marks)
        self.assertNotEqual(apart, once)
        self.assertEqual(row[4], once)

    def test_exits_that_become_wider(self):
        rules = Rules(read_program(RECURSION))
        table = first_table(rules, 200, ())
        ends = [row for row in table if row[0] == "up" and row[2] == rules.layouts["up"].exit]
        self.assertTrue(any(row[4][1][0] == 30 or row[4][2][0] == 30 for row in ends))
        for picks in ((), (1,), (5, 0, 3), (10 ** 30,)):
            self.assertEqual(first_table(rules, 200, picks), table)

    def test_functions_that_are_never_called(self):
        table = first_table(Rules(read_program(LOOP)), 200, ())
        self.assertEqual(sorted({row[0] for row in table}), ["add", "main"])

    def test_main_alone(self):
        for text, many in (("def main()\nend\n", 1), ("def main()\n  return\nend\n", 2)):
            rules = Rules(read_program(text))
            table = first_table(rules, 5, ())
            self.assertEqual(len(table), many)
            self.assertEqual(table[0], rules.start())

    def test_functions_without_statements(self):
        text = "global a: 0..20\ndef none(n: 0..20): 3..30\nend\ndef main()\n  var r: 0..90\n  r = none(4)\n  a = 3\nend\n"
        self.assertEqual(self.check(read_program(text)), 4)

    def test_limits(self):
        for program in programs()[:60]:
            rules = Rules(program)
            table = slow_first(rules, 150)
            many = len(table)
            if many > 150:
                continue
            for limit, wanted in ((many - 1, None), (many, table), (many + 1, table)):
                for picks in ((), (2, 7)):
                    if limit > 0:
                        self.assertEqual(first_table(rules, limit, picks), wanted)

    def test_limit_of_a_table_without_end(self):
        """Each call has an entry of its own, so no table of a few hundred rows is the first one."""
        fields = "".join(f"  f{at}: 0..7\n" for at in range(4))
        text = f"record r\n{fields}end\nglobal x: r\n" + "".join(f"global k{at}: 0..7\n" for at in range(6))
        body = "".join(f"    k{at} = input\n" for at in range(6))
        program = read_program(f"{text}def main()\n  while true\n{body}  end\nend\n")
        for picks in ((), (3, 1), (0,)):
            self.assertIsNone(first_table(Rules(program), 600, picks))

    def test_picks(self):
        choices = ((), (0,), (1,), (7,), (0, 1, 2, 3), (10 ** 30, 5, 0), tuple(range(64)), tuple(range(63, -1, -3)))
        for rules, table in small_tables(150)[:80]:
            for picks in choices:
                self.assertEqual(first_table(rules, 150, picks), table)
            chance = random.Random(len(table))
            for _ in range(4):
                picks = tuple(chance.randrange(1000) for _ in range(chance.randrange(1, 64)))
                self.assertEqual(first_table(rules, 150, picks), table)

    def test_ids_differ_and_no_box_is_none(self):
        for _, table in small_tables():
            self.assertEqual(len(set(ids_of(table))), len(table))
            self.assertNotIn(None, [row[4] for row in table])


if __name__ == "__main__":
    unittest.main()
