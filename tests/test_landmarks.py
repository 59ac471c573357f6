"""Points 56 and 57."""

import random
import unittest

from neverhappens.landmarks import is_head, landmarks, round_box
from neverhappens.layouts import Layout
from neverhappens.reading import read_program
from neverhappens.zones import bound, is_inside, range_box
from tests.slow import FAR, NO_COLUMNS, chance_box, is_closed, points_of
from tests.samples import DOOR


def around(*numbers):
    """The landmarks that these numbers give."""
    found = {-1, 0, 1}
    for number in numbers:
        found |= {number - 1, number, number + 1, -number - 1, -number, -number + 1}
    return tuple(sorted(found))


class TestLandmarks(unittest.TestCase):
    def check(self, text, *numbers, function="main"):
        found = landmarks(Layout(read_program(text), function))
        self.assertEqual(repr(found), repr(around(*numbers)))

    def body(self, lines, *numbers, names="", arrays=""):
        text = arrays + "def g(p: flag, q: flag)\nend\ndef main()\n" + names
        self.check(text + "".join("  " + line + "\n" for line in lines.split("\n")) + "end\n", *numbers)

    def test_none(self):
        self.check("def main()\nend\n")
        self.assertEqual(landmarks(Layout(read_program("def main()\nend\n"), "main")), (-1, 0, 1))

    def test_example(self):
        self.assertEqual(landmarks(Layout(read_program("global a: 5..20\ndef main()\nend\n"), "main")),
                         (-21, -20, -19, -6, -5, -4, -1, 0, 1, 4, 5, 6, 19, 20, 21))

    def test_numbers_that_are_near_each_other(self):
        # No number twice.
        self.check("global a: 0..2\nglobal b: -2..1\nglobal c: 1..3\ndef main()\nend\n", 0, 1, 2, 3)
        self.assertEqual(landmarks(Layout(read_program("global a: 0..2\ndef main()\nend\n"), "main")),
                         (-3, -2, -1, 0, 1, 2, 3))

    def test_kinds(self):
        # Globals, parameters, locals and the result, small and large; not flags and references.
        text = """\
record leaf
  n: 70..71
end
global a: 10..20
global b: 30..31
global c: flag
global d: leaf
def f(e: 100..101, f: -200..-150): 300..310
  var g: 400..500
  var h: 1000..1001
end
def k(): -7000..-6000
end
def main()
end
"""
        shared = (10, 20, 30, 31)
        self.check(text, *shared, 100, 101, 200, 150, 300, 310, 400, 500, 1000, 1001, function="f")
        self.check(text, *shared, 7000, 6000, function="k")
        # Those of other functions do not count.
        self.check(text, *shared, function="main")

    def test_arrays(self):
        self.check("array a[50]: 100..200\narray b[3]: -9..-5\ndef main()\nend\n", 50, 100, 200, 3, 9, 5)

    def test_places_in_the_body(self):
        text = """\
record leaf
  n: 0..3
end
array a[2]: 0..0
def g(p: 0..1, q: 0..1): 0..1
end
def other()
  assert (7777 < 8888)
end
def main()
  var x: 0..1
  var l: leaf
  x = 10
  l.n = 20
  x = (30 - ((40 + 50) * -60))
  a[70] = 80
  x = g(90, (x + 100))
  g(110, 120)
  if (130 < x)
    x = 140
  else
    x = 150
    while (not ((160 == x) or (x != 170)))
      assert ((x <= 180) and (true or (190 < x)))
    end
  end
end
"""
        self.check(text, 2, *range(10, 200, 10))
        self.check(text, 2, 7777, 8888, function="other")

    def test_returns_and_elements(self):
        text = "array a[2]: 0..1\ndef f(): 0..1\n  var x: 0..1\n  x = a[33]\n  return 44\nend\ndef main()\nend\n"
        self.check(text, 2, 33, 44, function="f")
        self.check("def f()\n  return\nend\ndef main()\nend\n", function="f")

    def test_flags_and_null_are_no_numbers(self):
        self.body("m = (true and (q same null))\nm = g(true, m)\nm = input\nq = null",
                  names="  var m: flag\n  var q: leaf\n", arrays="record leaf\nend\n")

    def test_great_numbers(self):
        text = "global a: -" + str(10 ** 30) + ".." + str(10 ** 40) + "\ndef main()\nend\n"
        self.check(text, 10 ** 30, 10 ** 40)


class TestRoundBox(unittest.TestCase):
    def check(self, box, ranges, marks, wanted):
        self.assertEqual(repr(round_box(box, ranges, marks)), repr(wanted))

    def test_none(self):
        self.check(None, (), (), None)
        self.check(None, ((0, 9),), (-1, 0, 1), None)

    def test_no_columns(self):
        self.check(NO_COLUMNS, (), (), NO_COLUMNS)
        self.check(NO_COLUMNS, (), (-1, 0, 1), NO_COLUMNS)

    def test_one_column(self):
        ranges = ((0, 100),)
        marks = (-20, -10, -1, 0, 1, 10, 20)
        for low, high, wanted in (
            (10, 20, (10, 20)), (11, 19, (10, 20)), (9, 21, (1, 100)), (10, 10, (10, 10)), (11, 11, (10, 20)),
            (9, 9, (1, 10)), (21, 30, (20, 100)), (20, 30, (20, 100)), (0, 1, (0, 1)), (1, 2, (1, 10)),
            (0, 100, (0, 100)), (50, 100, (20, 100)), (99, 99, (20, 100)),
        ):
            self.check(range_box(((low, high),)), ranges, marks, range_box((wanted,)))

    def test_beyond_the_least_and_the_greatest_one(self):
        # A limit below the least landmark becomes the least one: x is at least 50, which gives 20.
        self.check(range_box(((50, 60),)), ((-100, 100),), (-20, 20), range_box(((20, 100),)))
        self.check(range_box(((-60, -50),)), ((-100, 100),), (-20, 20), range_box(((-100, -20),)))
        self.check(range_box(((-60, -50),)), ((-100, 100),), (30,), range_box(((-100, 30),)))
        self.check(range_box(((50, 60),)), ((-100, 100),), (-70,), range_box(((-100, 100),)))

    def test_a_range_that_is_less_than_the_landmark(self):
        self.check(range_box(((3, 4),)), ((0, 7),), (-10, 10), range_box(((0, 7),)))
        self.check(range_box(((3, 4),)), ((2, 7),), (-10, 10), range_box(((2, 7),)))
        self.check(range_box(((3, 4),)), ((3, 10),), (-10, 10), range_box(((3, 10),)))

    def test_no_landmarks(self):
        box = bound(range_box(((3, 4), (5, 9))), 1, 2, -4)
        self.check(box, ((0, 7), (-5, 20)), (), range_box(((0, 7), (-5, 20))))

    def test_differences_of_columns(self):
        ranges = ((0, 100), (0, 100))
        box = bound(bound(range_box(((0, 30), (0, 30))), 1, 2, 7), 2, 1, -3)
        marks = (-10, -2, 0, 5, 10, 40)
        # 30 becomes 40, 7 becomes 10 and -3 becomes -2.
        self.check(box, ranges, marks,
                   bound(bound(range_box(((0, 40), (0, 40))), 1, 2, 10), 2, 1, -2))
        # Beyond the greatest one there is only what the ranges tell.
        self.check(bound(range_box(((0, 90), (0, 90))), 1, 2, 50), ranges, marks, range_box(ranges))
        self.check(bound(range_box(((0, 100), (0, 100))), 1, 2, 4), ranges, marks,
                   bound(range_box(ranges), 1, 2, 5))

    def test_the_result_is_closed(self):
        # Column 1 is at most 10 greater than column 2, which is at most 10, so that 30 comes to 20.
        box = bound(range_box(((0, 19), (0, 10))), 1, 2, 9)
        found = round_box(box, ((0, 100), (0, 100)), (0, 10, 30))
        self.assertEqual(found, bound(range_box(((0, 20), (0, 10))), 1, 2, 10))
        self.assertTrue(is_closed(found))

    def test_great_numbers(self):
        self.check(range_box(((0, FAR),)), ((-FAR, 2 * FAR),), (0, FAR - 1, FAR + 3), range_box(((0, FAR + 3),)))

    def test_by_chance(self):
        chance = random.Random(1)
        for _ in range(500):
            count = chance.randrange(4)
            box = chance_box(chance, count, 3)
            ranges = tuple((-3 - chance.randrange(3), 3 + chance.randrange(3)) for _ in range(count))
            marks = tuple(sorted(chance.sample(range(-9, 10), chance.randrange(7))))
            found = round_box(box, ranges, marks)
            if box is None:
                self.assertIsNone(found)
                continue
            limits = ((0, 0), *ranges)
            most = [[0 if i == j else min([mark for mark in marks if mark >= box[i][j]]
                                          + [limits[i][1] - limits[j][0]])
                     for j in range(count + 1)] for i in range(count + 1)]
            self.assertTrue(is_inside(box, found) and is_closed(found))
            self.assertEqual(points_of(found, 6), points_of(most, 6))

    def test_arguments_are_not_changed(self):
        marks, ranges = (0, 10), ((0, 100),)
        round_box(range_box(((3, 4),)), ranges, marks)
        self.assertEqual((marks, ranges), ((0, 10), ((0, 100),)))


class TestIsHead(unittest.TestCase):
    def heads(self, layout):
        for place in range(layout.exit + 1):
            self.assertIsInstance(is_head(layout, place), bool)
        return [place for place in range(layout.exit + 1) if is_head(layout, place)]

    def test_each_place(self):
        self.assertEqual(self.heads(Layout(DOOR, "shut")), [0, 6])
        self.assertEqual(self.heads(Layout(DOOR, "main")), [0, 1, 3])
        text = "def main()\n  var a: flag\n  a = a\n  if a\n    while a\n      while a\n      end\n      break\n" \
               "    end\n  end\n  a = a\nend\n"
        self.assertEqual(self.heads(Layout(read_program(text), "main")), [0, 2, 3, 6])

    def test_a_while_at_first(self):
        self.assertEqual(self.heads(Layout(read_program("def main()\n  while true\n    main()\n  end\nend\n"),
                                           "main")), [0, 2])

    def test_without_statements(self):
        self.assertEqual(self.heads(Layout(read_program("def main()\nend\n"), "main")), [0])


if __name__ == "__main__":
    unittest.main()
