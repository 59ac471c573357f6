"""Points 84 to 86: hunting for runs, and which programs are simple."""

import unittest

from neverhappens.analysis import analyse
from neverhappens.errors import NoSite
from neverhappens.hunting import hunt, is_simple
from neverhappens.plain import run
from neverhappens.reading import read_program
from neverhappens.sites import sites
from neverhappens.verdicts import report
from tests.exploring import levels
from tests.hunted import count_classes
from tests.making import CarefulMaker, GentleMaker, NumberMaker, PlainMaker, RightMaker, SimpleMaker
from tests.samples import DOOR

NONE = ("none",)
CUT = ("cut",)
GREAT = ("num", -(10 ** 9), 10 ** 9)

# Simple programs with one fault each, which needs inputs that are hard to meet: the site and the
# least number of visits.
HARD = [
    ("global x: 0..1000000000\nglobal y: 0..1000000000\ndef main()\n  x = input\n  y = input\n"
     "  assert (not (x == (y + 123456789)))\nend\n", 2, "assert", 3),
    ("global x: -1000000000..1000000000\nglobal y: -1000000000..1000000000\ndef main()\n  x = input\n  y = input\n"
     "  if (x == y)\n    if (x == 77777777)\n      assert false\n    end\n  end\nend\n", 4, "assert", 5),
    ("def main()\n  var s: 0..30\n  var k: 0..7\n  k = input\n  s = (s + k)\n  k = input\n  s = (s + k)\n  k = input\n  s = (s + k)\n"
     "  assert (s != 20)\n  assert (k != 7)\nend\n", 6, "assert", 7),
    ("def main()\n  var s: 0..30\n  var k: 0..7\n  k = input\n  s = (s + k)\n  k = input\n  s = (s + k)\n  k = input\n  s = (s + k)\n"
     "  assert (s < 21)\n  assert (k != 6)\nend\n", 6, "assert", 7),
    ("def main()\n  var k: -3..4\n  var x: 0..1000000\n  x = input\n  k = input\n  if (k == 4)\n    k = (x - 999990)\n    assert (k != -2)\n"
     "  end\nend\n", 4, "assert", 5),
    ("def main()\n  var k: 0..7\n  var x: 0..1000000\n  x = input\n  if (999995 < x)\n    k = x\n  end\nend\n", 2, "range", 3),
    ("global low: 0..1000000000\ndef check(x: 0..1000000000): 0..1000000000\n  if (x < low)\n    low = x\n  end\n  return (x + 1)\nend\n"
     "def main()\n  var a: 0..1000000000\n  var b: 0..1000000000\n  low = 500\n  a = input\n  b = check(a)\n  assert (not ((low == 13) and (b == (a + 1))))\n"
     "end\n", 3, "assert", 7),
    ("global x: 0..1000000000\nglobal y: 0..1000000000\nglobal z: 0..1000000000\ndef main()\n  x = input\n  y = input\n  z = input\n"
     "  if (((x + 5) < y) and (y < (z - 7)))\n    if (z < (x + 15))\n      assert false\n    end\n  end\nend\n", 5, "assert", 6),
    ("record r\n  n: 0..7\nend\ndef main()\n  var p: r\n  var x: -1000000..1000000\n  var k: 0..7\n  p = new\n  x = input\n  p.n = (x + 999000)\n"
     "  k = p.n\n  if (k == 5)\n    free p\n  end\n  k = p.n\nend\n", 6, "gone", 7),
    ("def down(n: 0..1000000, f: flag): flag\n  var k: flag\n  if (n == 3)\n    assert f\n  end\n  if (n < 10)\n    k = down((n - 1), (n == 4))\n  end\n"
     "  return k\nend\ndef main()\n  var x: 0..1000000\n  var f: flag\n  x = input\n  f = down(x, true)\nend\n", 3, "range", 5),
]

# More of them, in which the border between less, equal and greater counts, or single parts of a state.
HARD += [
    ("def main()\n  var x: 0..99\n  var y: 0..99\n  x = input\n  y = (x + 1)\n  assert (y <= x)\nend\n", 2, "assert", 3),
    ("def main()\n  var x: 0..99\n  var y: 0..99\n  x = input\n  y = (x + 1)\n  assert (not (x < y))\nend\n", 2, "assert", 3),
    ("def main()\n  var x: 0..99\n  var y: 0..99\n  x = input\n  y = (x - 1)\n  assert (x <= y)\nend\n", 2, "assert", 3),
    ("def main()\n  var x: 0..99\n  var y: 0..99\n  x = input\n  y = x\n  assert (x != y)\nend\n", 2, "assert", 3),
    ("def main()\n  var x: 0..99\n  var y: 0..99\n  x = input\n  y = input\n  if (x != y)\n    if (x < (y + 1))\n      assert ((x + 1) < y)\n    end\n  end\nend\n",
     4, "assert", 5),
    ("record e\nend\nrecord r\n  a: 0..3\n  b: 0..3\n  c: 0..3\nend\ndef main()\n  var o: r\n  var p: r\n  var q: r\n  var n: e\n  var m: e\n  var k: 0..3\n"
     "  o = new\n  p = new\n  q = new\n  n = new\n  m = new\n  p.a = 1\n  p.b = 2\n  p.c = 3\n  p.b = 1\n  q.a = 2\n  o.c = 2\n  free o\n  k = p.c\n"
     "  assert (k != 3)\nend\n", 13, "assert", 14),
    ("record e\nend\ndef main()\n  var n: e\n  var m: e\n  n = new\n  m = new\n  free n\n  free m\n  free n\nend\n", 4, "gone", 5),
    ("def f(a: 0..9, k: 0..3, b: 0..9, g: flag): 0..9\n  if g\n    return b\n  end\n  return (a + k)\nend\ndef main()\n  var x: 0..9\n  var y: 0..9\n"
     "  x = input\n  y = input\n  y = f(x, (y - 6), y, (x == y))\n  assert (y != 8)\nend\n", 3, "assert", 6),
]

# Programs that are not simple, whose runs are found nevertheless.
FOUND = [
    ("def main()\n  var x: 0..1000000\n  var y: 0..1000000\n  x = input\n  y = input\n  assert (not ((x + y) == 1234567))\nend\n", 2, "assert"),
    ("def main()\n  var x: 0..1000000\n  var y: 0..1000000\n  x = input\n  y = input\n  assert (not (((3 * x) + (5 * y)) == 123456))\nend\n", 2, "assert"),
    ("def main()\n  var x: 2..100\n  var y: 2..100\n  x = input\n  y = input\n  assert (not ((x * y) == 391))\nend\n", 2, "assert"),
    ("array a[9]: 0..1000000\ndef main()\n  var i: 0..20\n  var j: 0..20\n  var x: 0..1000000\n  i = input\n  j = input\n  x = input\n  a[i] = x\n"
     "  x = a[j]\n  assert (x != 77777)\nend\n", 5, "assert"),
    ("array a[9]: 0..1000000\ndef main()\n  var i: 0..20\n  i = input\n  a[i] = 5\nend\n", 1, "index"),
    ("array a[2]: 0..3\ndef main()\n  var x: 0..20\n  var k: 0..3\n  x = input\n  a[1] = (x - 17)\n  k = a[1]\n  assert (k != 3)\nend\n", 3, "assert"),
    ("array a[2]: 0..3\ndef main()\n  var x: 0..20\n  x = input\n  a[(x - 9)] = (x - 6)\nend\n", 1, "range"),
    ("def main()\n  var x: 0..100\n  var y: 0..100\n  x = input\n  y = (x + x)\nend\n", 1, "range"),
]


class HuntCase(unittest.TestCase):
    def check_run(self, program, site, answer, visits):
        """A run that is returned has the fault with that visit."""
        self.assertEqual((type(answer), len(answer), answer[0]), (tuple, 3, "run"))
        _, inputs, count = answer
        self.assertIs(type(inputs), list)
        self.assertLessEqual(count, visits)
        self.assertEqual(run(program, inputs, visits)[:2], (("fault", *site), count))
        self.assertEqual(run(program, inputs, count)[2], len(inputs))


class TestHard(HuntCase):
    def test_simple_programs(self):
        for text, place, fault, least in HARD:
            program = read_program(text)
            self.assertIs(is_simple(program), True, text)
            name = "down" if "down" in text else "main"
            for visits in (0, least - 1, least, least + 1, 20, 60):
                answer = hunt(program, name, place, fault, visits=visits)
                if visits < least:
                    self.assertEqual(answer, NONE, text)
                else:
                    self.check_run(program, (name, place, fault), answer, visits)
                    self.assertGreaterEqual(answer[2], least)

    def test_faults_that_no_run_has(self):
        for text in (
            HARD[0][0].replace("(y + 123456789)", "(y + 1000000001)"), HARD[1][0].replace("77777777", "1000000001"),
            HARD[7][0].replace("(x + 15)", "(x + 14)"), HARD[2][0].replace("!= 20", "!= 22"),
        ):
            program = read_program(text)
            place = next(place for _, place, fault in sites(program) if fault == "assert")
            self.assertEqual(hunt(program, "main", place, "assert", visits=60, tries=5000), NONE)

    def test_other_programs(self):
        for text, place, fault in FOUND:
            program = read_program(text)
            self.assertIs(is_simple(program), False)
            self.check_run(program, ("main", place, fault), hunt(program, "main", place, fault), 20)
        for text, place, fault in (
            (FOUND[0][0].replace("1234567", "2000001"), 2, "assert"), (FOUND[6][0].replace("(x - 9)", "(x - 8)"), 1, "range"),
            (FOUND[5][0].replace("17", "18"), 3, "assert"), (FOUND[7][0].replace("(x + x)", "(x + 0)"), 1, "range"),
            (FOUND[2][0].replace("391", "10001"), 2, "assert"),
            ("array a[3]: 0..3\ndef main()\n  var k: 0..2\n  var x: 0..3\n  k = input\n  a[k] = 1\n  x = a[k]\nend\n", 1, "index"),
            ("array a[3]: 0..3\ndef main()\n  var k: 0..2\n  var x: 0..3\n  k = input\n  a[k] = 1\n  x = a[k]\nend\n", 2, "index"),
        ):
            self.assertEqual(hunt(read_program(text), "main", place, fault), NONE, text)

    def test_inputs_that_are_not_found(self):
        """The search gives up, whether there is a run or not."""
        text = "def main()\n  var x: 0..1000000\n  var y: 0..1000000\n  x = input\n  y = input\n  assert (not ((x * y) == (15485863 * 7919)))\nend\n"
        self.assertEqual(hunt(read_program(text), "main", 2, "assert"), CUT)

    def test_long_ways(self):
        """The same states come again and again, and are looked at once."""
        program = read_program("def main()\n  var n: 0..40\n  var f: flag\n  while (n < 13)\n    f = input\n    n = (n + 1)\n  end\n  assert f\nend\n")
        answer = hunt(program, "main", 3, "assert", visits=60)
        self.check_run(program, ("main", 3, "assert"), answer, 60)
        self.assertEqual(hunt(program, "main", 3, "assert", visits=40), NONE)
        self.assertEqual(answer[2], 41)


class TestMerged(HuntCase):
    """Groups of runs that go on in the same way are looked at once, but no others."""

    def test_groups_that_are_not_told_by_a_box(self):
        """Both ways come to the same place with the same values; only one of them can go wrong."""
        for first, second in (("x == 9", "x != 9"), ("x != 9", "x == 9")):
            text = (f"global f: flag\ndef main()\n  var x: 0..9\n  var y: 0..9\n  x = input\n  y = input\n  f = input\n"
                    f"  if f\n    if (((x + y) == 7) and ({first}))\n      return\n    end\n  else\n    if (((x + y) == 18) and ({second}))\n      return\n"
                    f"    end\n  end\n  f = false\n  assert ((x + y) != 18)\nend\n")
            program = read_program(text)
            for place, fault in ((9, "assert"),):
                self.check_run(program, ("main", place, fault), hunt(program, "main", place, fault), 20)
            self.assertEqual(hunt(read_program(text.replace("!= 18)", "!= 19)")), "main", 9, "assert"), NONE)

    def test_products(self):
        text = ("def main()\n  var x: 0..9\n  var y: 0..9\n  var f: flag\n  x = input\n  y = input\n  f = input\n  if f\n    y = 3\n  else\n    y = (x * y)\n"
                "  end\n  f = false\n  assert (y != 8)\nend\n")
        program = read_program(text)
        self.check_run(program, ("main", 7, "assert"), hunt(program, "main", 7, "assert"), 20)

    def test_the_same_state_with_more_visits_first(self):
        """The longer way is looked at first, as the fault seems near on it."""
        text = ("def t(k: 0..3)\n  assert (k == 1)\nend\ndef main()\n  var f: flag\n  var s: 0..3\n  var n: 0..40\n  f = input\n  if f\n"
                + "    f = false\n    s = 0\n    s = 0\n    if (s == 1)\n      t(3)\n    end\n  else\n    s = 0\n  end\n" + "  s = 0\n" * 12
                + "  while (n < 8)\n    n = (n + 1)\n  end\n  t(2)\nend\n")
        program = read_program(text)
        least = 2 + 1 + 12 + 17 + 2
        self.check_run(program, ("t", 0, "assert"), hunt(program, "t", 0, "assert", visits=least), least)
        self.assertEqual(hunt(program, "t", 0, "assert", visits=least - 1), NONE)


class TestAllRuns(HuntCase):
    def check(self, program, visits, counts, faults):
        """All answers are right, and the search never gives up within the numbers of point 85."""
        runs = 0
        for site in sites(program):
            least = faults.get(site)
            for most in range(visits + 1):
                answer = hunt(program, *site, visits=most, tries=max(1, sum(counts[:most])))
                if least is None or least > most:
                    self.assertEqual(answer, NONE)
                else:
                    self.check_run(program, site, answer, most)
                    runs += 1
        return runs

    def test_simple_programs_by_chance(self):
        runs = 0
        for seed in range(150):
            program = SimpleMaker(seed).program()
            self.assertIs(is_simple(program), True)
            counted = count_classes(program, 8, 800)
            if counted is not None:
                runs += self.check(program, 8, *counted)
        self.assertGreater(runs, 400)

    def test_programs_with_many_inputs(self):
        runs = 0
        for text in (
            "def main()\n  var x: 0..8\n  var y: 0..8\n  while (x <= y)\n    x = input\n    y = (x + 1)\n  end\n  assert (x != 5)\nend\n",
            "def main()\n  var x: 0..8\n  var k: 0..1\n  var f: flag\n  while true\n    x = input\n    f = ((x < 3) or (x == 7))\n    if f\n      k = (x - 6)\n    end\n  end\nend\n",
            "global x: 0..8\ndef f(k: 0..2, y: 0..8, f: flag): 0..8\n  if f\n    return y\n  end\n  return (y + k)\nend\ndef main()\n  var y: 0..8\n  x = input\n  y = input\n"
            "  x = f(x, (y + 3), (x == y))\n  x = (x - 5)\nend\n",
            "record r\n  n: 0..2\n  f: flag\nend\ndef main()\n  var p: r\n  var x: 0..8\n  var g: flag\n  x = input\n  if (x != 4)\n    p = new\n  end\n  p.f = (x < 2)\n  p.n = x\n  g = p.f\n  assert g\nend\n",
        ):
            program = read_program(text)
            self.assertIs(is_simple(program), True)
            counts, faults = count_classes(program, 7, 6000)
            runs += self.check(program, 7, counts, faults)
        self.assertGreater(runs, 12)

    def test_plain_programs(self):
        """Where the number of classes does not matter, the answers are those of the verdicts."""
        answers = set()
        for seed in range(25):
            for maker in (PlainMaker, GentleMaker):
                program = maker(seed).program()
                analysis = analyse(program, limit=600)
                for site, told in report(analysis)[::3]:
                    answer = hunt(program, *site, visits=15, tries=2000)
                    answers.add(answer[0])
                    if answer[0] == "run":
                        self.check_run(program, site, answer, 15)
                        self.assertIn(told[0], ("can", "open"))
                        self.assertGreaterEqual(answer[2], told[1] if told[0] == "can" else 0)
                    elif answer == NONE and told[0] == "can":
                        self.assertGreater(told[1], 15)
        self.assertLessEqual({"run", "none"}, answers)

    def test_other_programs_by_chance(self):
        answers = set()
        for seed in range(20):
            for maker in (CarefulMaker, NumberMaker, RightMaker):
                program = maker(seed).program()
                reached = {machine.outcome()[1:]: count for count, level in enumerate(levels(program, 9, 30))
                           for _, machine, _ in level if machine.outcome()[0] == "fault"}
                for site in sites(program)[::4] + [site for site in sites(program) if site in reached]:
                    answer = hunt(program, *site, visits=12, tries=100)
                    answers.add(answer[0])
                    if answer[0] == "run":
                        self.check_run(program, site, answer, 12)
                    else:
                        self.assertFalse(answer == NONE and site in reached)
        self.assertLessEqual({"run", "none"}, answers)

    def test_great_ranges_by_chance(self):
        runs = 0
        for seed in range(60):
            program = SimpleMaker(seed, GREAT).program()
            reached = {machine.outcome()[1:]: count for count, level in enumerate(levels(program, 9, 60))
                       for _, machine, _ in level if machine.outcome()[0] == "fault"}
            for site in sites(program):
                answer = hunt(program, *site, visits=9, tries=5000)
                self.assertNotEqual(answer, CUT)
                if answer != NONE:
                    self.check_run(program, site, answer, 9)
                    runs += 1
                else:
                    self.assertNotIn(site, reached)
        self.assertGreater(runs, 30)


class TestManyComparisons(HuntCase):
    def test_many_cases_in_one_visit(self):
        """The search gives up where one statement alone has far too many cases."""
        names = "abcdef"
        shared = "".join(f"global {name}: 0..1000000000\n" for name in names)
        reads = "".join(f"  {name} = input\n" for name in names)
        for many, wanted in ((2, NONE), (6, CUT)):
            test = "true"
            for at in range(many):
                for name in names:
                    test = f"({test} and ({name} != {100 * at + 7}))"
            program = read_program(f"{shared}def main()\n{reads}  if {test}\n    a = 1\n  end\n  a = 8\n  assert (a == 8)\nend\n")
            self.assertIs(is_simple(program), True)
            self.assertEqual(hunt(program, "main", 9, "assert", visits=20, tries=5000), wanted)

    def test_many_cases_of_arguments(self):
        params = ", ".join(f"f{at}: flag" for at in range(15))
        values = ", ".join(f"(x == {3 * at}), (y == {3 * at}), (z == {3 * at})" for at in range(5))
        text = (f"global x: 0..1000000000\nglobal y: 0..1000000000\nglobal z: 0..1000000000\ndef f({params})\n  assert (x == 1)\nend\n"
                f"def main()\n  x = input\n  y = input\n  z = input\n  x = 1\n  f({values})\nend\n")
        self.assertEqual(hunt(read_program(text), "f", 0, "assert"), NONE)
        self.assertEqual(hunt(read_program(text.replace("  x = 1\n", "")), "f", 0, "assert", tries=5000)[0], "run")
        text = text.replace("(x == 3)", "((x + y) == 3)").replace("(y == 6)", "((z + y) == 6)").replace("(z == 9)", "((z + x) == 9)")
        self.assertIn(hunt(read_program(text), "f", 0, "assert")[0], ("none", "cut"))

    def test_what_does_not_matter_is_left_open(self):
        """Of many comparisons in a row only the first one that decides parts the runs."""
        expression = "(x < 999999999)"
        for at in range(30):
            expression = f"((x != {at}) and {expression})"
        program = read_program(f"global x: 0..1000000000\ndef main()\n  x = input\n  assert {expression}\n  assert (x != 77)\nend\n")
        self.assertEqual(hunt(program, "main", 2, "assert", tries=100), ("run", [77], 3))


class TestNumbers(HuntCase):
    def test_numbers_without_arguments(self):
        """At most 20 visits, and 500 tries."""
        text = "def main()\n  var n: 0..40\n  while (n < {})\n    n = (n + 1)\n  end\n  assert false\nend\n"
        self.assertEqual(hunt(read_program(text.format(9)), "main", 2, "assert"), ("run", [], 20))
        longer = read_program(text.format(9).replace("assert false", "n = n\n  assert false"))
        self.assertEqual(hunt(longer, "main", 3, "assert"), NONE)
        self.assertEqual(hunt(longer, "main", 3, "assert", visits=21), ("run", [], 21))
        self.assertEqual(hunt(read_program(text.format(10)), "main", 2, "assert"), NONE)
        self.assertEqual(hunt(read_program(text.format(10)), "main", 2, "assert", visits=22), ("run", [], 22))
        # All values of three variables, kept until the end: 8, 64 and 512 classes.
        text = "def main()\n  var a: 0..7\n  var b: 0..7\n  var c: 0..7\n  a = input\n  b = input\n  c = input\n  c = c\n  assert ((a + b) < (15 + c))\nend\n"
        self.assertEqual(hunt(read_program(text), "main", 4, "assert"), CUT)
        self.assertEqual(hunt(read_program(text), "main", 4, "assert", tries=584 + 512), NONE)

    def test_no_visits(self):
        for text, place, fault, _ in HARD[:9]:
            self.assertEqual(hunt(read_program(text), "main", place, fault, visits=0), NONE)
            self.assertEqual(hunt(read_program(text), "main", place, fault, visits=0, tries=1), NONE)

    def test_one_try(self):
        program = read_program("def main()\n  assert false\nend\n")
        self.assertEqual(hunt(program, "main", 0, "assert", tries=1), ("run", [], 1))
        self.assertEqual(hunt(program, "main", 0, "assert", visits=1, tries=1), ("run", [], 1))
        program = read_program("def main()\n  var f: flag\n  f = input\n  f = input\n  f = input\n  assert f\nend\n")
        self.assertIn(hunt(program, "main", 3, "assert", tries=1), (CUT, ("run", [0, 0, 0], 4)))
        self.assertEqual(hunt(program, "main", 3, "assert", visits=1, tries=1), NONE)

    def test_the_inputs_that_are_read(self):
        """They are told from the least value on, for numbers and for flags."""
        program = read_program("def main()\n  var k: 3..6\n  var x: -50..50\n  var f: flag\n  k = input\n  x = input\n  f = input\n  assert (not (((k == 5) and (x == -43)) and f))\nend\n")
        self.assertEqual(hunt(program, "main", 3, "assert"), ("run", [2, 7, 1], 4))

    def test_runs_that_end(self):
        program = read_program("def none()\nend\ndef main()\n  none()\nend\n")
        self.assertEqual(sites(program), [])
        program = read_program("def f(k: 0..3): 0..3\n  return k\nend\ndef main()\n  f(1)\nend\n")
        for site in sites(program):
            for visits in (0, 1, 2, 60):
                self.assertEqual(hunt(program, *site, visits=visits), NONE)

    def test_no_site(self):
        for program in (DOOR, read_program(HARD[0][0])):
            for site in (("none", 0, "range"), ("main", 99, "assert"), ("main", -1, "range"), ("main", 0, "null"), ("main", 0, "")):
                with self.assertRaises(NoSite) as caught:
                    hunt(program, *site, visits=0, tries=1)
                error = caught.exception
                self.assertEqual((error.function, error.place, error.fault), site)

    def test_functions_that_are_never_called(self):
        program = read_program("def f()\n  assert false\nend\ndef main()\n  while true\n  end\nend\n")
        self.assertEqual(hunt(program, "f", 0, "assert", visits=60, tries=1), NONE)

    def test_recursion(self):
        program = read_program("global deep: 0..100\ndef f()\n  var g: flag\n  deep = (deep + 1)\n  g = input\n  if g\n    f()\n  end\n  assert (deep != 4)\nend\ndef main()\n  f()\nend\n")
        answer = hunt(program, "f", 4, "assert", visits=60)
        self.check_run(program, ("f", 4, "assert"), answer, 60)
        self.assertEqual(answer[1:], ([1, 1, 1, 0], 17))
        self.assertEqual(hunt(program, "f", 4, "assert", visits=16), NONE)

    def test_many_columns(self):
        program = read_program("def main()\n  var x: 0..1000000000\n  var y: 0..1000000000\n  while true\n    x = input\n    if (x < y)\n      y = x\n    else\n      y = (x - 7)\n    end\n    assert (y != 3)\n  end\nend\n")
        self.check_run(program, ("main", 5, "assert"), hunt(program, "main", 5, "assert", visits=60, tries=5000), 60)
        # y is never more than x, so it can never be too large.
        self.assertEqual(hunt(program, "main", 3, "range", visits=60, tries=5000), NONE)


# Statements of a function with the large x and y, the small k and the flag f, in which the number
# expression E stands where it counts. G is a flag.
PLACES = [
    "x = E", "k = E", "f = (E < 1)", "f = (1 <= E)", "f = (f and (E == 1))", "f = (not (E != 1))", "f = ((1 < 2) or (k != E))",
    "p.n = E", "p.f = (E < 0)", "x = g(E, f)", "x = g(1, (E == 2))", "x = g(1, (f or (E == 2)))", "if (E < 1)\n  end",
    "if (f or (f and (E < 1)))\n  end", "while (1 < E)\n  end", "assert (E == k)", "assert (not (not (E <= x)))", "return E",
    "if f\n    x = E\n  end", "if f\n  else\n    x = E\n  end", "while f\n    x = E\n  end",
]
SIMPLE = [
    "0", "k", "x", "(x + 1)", "(1 + x)", "(x - 1)", "(x + k)", "(k + y)", "(x - k)", "(y - ((k * k) + 3))", "((k * 5) + x)",
    "(k * k)", "(k - (3 * (k + 1)))", "(1 - k)",
]
OTHERS = [
    "(x + y)", "(x - y)", "(x + x)", "(x - x)", "(1 - x)", "(k - x)", "(x * 1)", "(1 * x)", "(x * k)", "((x + 1) + 1)", "(1 + (x + 1))",
    "((x - 1) - 1)", "(x + (y - 1))", "((x * 0) + k)", "(k + (x * 2))", "((x + 1) - k)", "(k * (k - x))", "((k + x) + (k - 1))",
]


class TestIsSimple(unittest.TestCase):
    def program(self, statement, number):
        text = "record r\n  n: 0..7\n  f: flag\nend\nglobal y: 0..99\nglobal p: r\ndef g(n: 0..99, m: flag): 0..99\nend\n"
        body = statement.replace("E", number)
        return read_program(f"{text}def h(x: 0..99): 0..99\n  var k: 0..7\n  var f: flag\n  {body}\nend\ndef main()\nend\n")

    def test_each_expression_at_each_place(self):
        for statement in PLACES:
            for number in SIMPLE:
                self.assertIs(is_simple(self.program(statement, number)), True, (statement, number))
            for number in OTHERS:
                self.assertIs(is_simple(self.program(statement, number)), False, (statement, number))

    def test_results_of_flags(self):
        text = "global x: 0..99\ndef h(): flag\n  return ((E < 3) or false)\nend\ndef main()\nend\n"
        self.assertIs(is_simple(read_program(text.replace("E", "(x + 1)"))), True)
        self.assertIs(is_simple(read_program(text.replace("E", "(x + x)"))), False)

    def test_large_is_by_the_function(self):
        """The same name may be large in one function and small in another one."""
        text = "def a()\n  var n: 0..7\n  n = (n * n)\nend\ndef b()\n  var n: 0..8\n  n = {}\nend\ndef main()\nend\n"
        self.assertIs(is_simple(read_program(text.format("(n + 1)"))), True)
        self.assertIs(is_simple(read_program(text.format("(n * n)"))), False)

    def test_arrays(self):
        for text in ("array a[1]: 0..1\ndef main()\nend\n", "array a[2]: 0..99\ndef main()\n  a[0] = 1\nend\n"):
            self.assertIs(is_simple(read_program(text)), False)

    def test_programs(self):
        self.assertIs(is_simple(read_program("def main()\nend\n")), True)
        self.assertIs(is_simple(DOOR), True)
        for seed in range(30):
            self.assertIs(is_simple(PlainMaker(seed).program()), True)
            self.assertIs(is_simple(SimpleMaker(seed).program()), True)
        self.assertIn(False, [is_simple(NumberMaker(seed).program()) for seed in range(10)])


if __name__ == "__main__":
    unittest.main()
