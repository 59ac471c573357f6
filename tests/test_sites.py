"""Points 72 and 73: sites, and which programs are plain."""

import unittest

from neverhappens.reading import read_program
from neverhappens.rules import Rules
from neverhappens.sites import is_plain, sites
from neverhappens.statements import list_statements
from tests.making import CarefulMaker, GentleMaker, NumberMaker, PlainMaker, RightMaker
from tests.samples import DOOR

ALL = """\
record leaf
  n: 0..3
  f: flag
end
record pair
  one: leaf
  n: 0..1
end
array few[3]: 0..5
array many[3]: 0..50
global small: 0..5
global large: 0..50
global ready: flag
global held: pair
def nothing()
  return
end
def flags(f: flag, p: pair): flag
  return f
end
def number(p: pair, n: 0..50): 0..50
  return n
end
def small(n: 0..3): leaf
  return null
end
def main()
  var l: leaf
  var s: 0..5
  small = 1
  large = 1
  ready = true
  held = null
  small = input
  large = input
  ready = input
  held = new
  free held
  l = held.one
  s = held.n
  held.one = null
  held.n = 1
  l.f = true
  small = few[0]
  large = many[0]
  few[1] = 2
  nothing()
  ready = flags(true, held)
  large = number(held, 3)
  l = small(2)
  if ready
    while ready
      break
    end
  else
    assert ready
  end
end
""".replace("def small(", "def tiny(").replace("= small(2)", "= tiny(2)")

TWO, THREE = ("null", "gone"), ("null", "gone", "range")


class TestSites(unittest.TestCase):
    def test_each_statement(self):
        program = read_program(ALL)
        wanted = [("number", 0, "range")]
        places = [
            ("range",), ("range",), (), (), (), (), (), (), TWO, TWO, TWO, TWO, THREE, TWO, ("index",), ("index",),
            ("index", "range"), (), (), ("range",), ("range",), (), (), (), ("assert",),
        ]
        wanted += [("main", place, fault) for place, faults in enumerate(places) for fault in faults]
        self.assertEqual(sites(program), wanted)
        self.assertIs(type(sites(program)), list)

    def test_order(self):
        """By the functions as they stand in the program, and not by their names."""
        program = read_program("global a: 0..9\ndef z(n: 0..9)\n  a = n\nend\ndef main()\n  a = 1\n  z(2)\nend\ndef b(): 0..9\n  return 1\nend\n")
        self.assertEqual(sites(program), [("z", 0, "range"), ("main", 0, "range"), ("main", 1, "range"), ("b", 0, "range")])

    def test_no_sites(self):
        self.assertEqual(sites(read_program("def main()\nend\n")), [])
        self.assertEqual(sites(DOOR)[:2], [("shut", 0, "null"), ("shut", 0, "gone")])

    def test_results(self):
        for result, value, many in (("flag", "true", 0), ("0..3", "1", 1), ("0..30", "1", 1), ("r", "null", 0)):
            program = read_program(f"record r\nend\ndef f(): {result}\n  return {value}\nend\ndef main()\nend\n")
            self.assertEqual(len(sites(program)), many)
        self.assertEqual(sites(read_program("def f()\n  return\nend\ndef main()\nend\n")), [])

    def test_parameters(self):
        for params, values, many in (
            ("", "", 0), ("f: flag", "true", 0), ("r: r", "null", 0), ("f: flag, r: r", "true, null", 0), ("n: 0..1", "0", 1),
            ("n: 0..99", "0", 1), ("f: flag, n: 0..1", "true, 1", 1), ("n: 0..1, m: 0..99", "1, 1", 1),
        ):
            program = read_program(f"record r\nend\ndef f({params})\nend\ndef main()\n  f({values})\nend\n")
            self.assertEqual(sites(program), [("main", 0, "range")] * many)

    def test_faults_of_rules_are_sites(self):
        """No rule tells a fault that is no site, and no site is there twice."""
        for seed in range(60):
            for maker in (CarefulMaker, NumberMaker, RightMaker, GentleMaker):
                program = maker(seed).program()
                found = sites(program)
                self.assertEqual(len(set(found)), len(found))
                rules = Rules(program)
                row = rules.start()
                for _ in range(20):
                    for fault in rules.faults(row):
                        self.assertIn((row[0], row[2], fault), found)
                    row = next(iter(rules.moves(row)), row)

    def test_places(self):
        for seed in range(30):
            program = RightMaker(seed).program()
            bodies = {function[0]: list_statements(function[4]) for function in program[3]}
            for function, place, fault in sites(program):
                word = bodies[function][place][0][0]
                self.assertNotIn(word, ("input", "new", "if", "while", "break"))
                self.assertEqual(fault == "assert", word == "assert")


class TestIsPlain(unittest.TestCase):
    def test_plain(self):
        self.assertIs(is_plain(DOOR), True)
        self.assertIs(is_plain(read_program("def main()\nend\n")), True)
        for seed in range(30):
            self.assertIs(is_plain(PlainMaker(seed).program()), True)
        text = "record r\n  n: -3..4\nend\nglobal a: r\nglobal b: 0..7\ndef f(n: 0..7, p: r): 5..12\n  var l: 1..8\n  f(1, p)\nend\ndef main()\n  a = new\n  main()\nend\n"
        self.assertIs(is_plain(read_program(text)), True)

    def test_each_reason_alone(self):
        for text in (
            "array a[1]: 0..1\ndef main()\nend\n", "array a[1]: 0..100\ndef main()\nend\n",
            "global a: 0..8\ndef main()\nend\n", "global b: 0..7\nglobal a: -4..4\ndef main()\nend\n",
            "def f(n: 0..8)\nend\ndef main()\nend\n", "def f(m: 0..7, n: 0..8)\nend\ndef main()\nend\n",
            "def f(): 0..8\nend\ndef main()\nend\n", "def main()\n  var n: 0..8\nend\n",
            "def main()\n  var m: flag\n  var n: 5..13\nend\n", "def main()\nend\ndef f()\n  var n: 0..8\nend\n",
            "def main()\nend\ndef f(): -1000..1000\nend\n",
        ):
            self.assertIs(is_plain(read_program(text)), False, text)

    def test_numbers_in_expressions_do_not_count(self):
        self.assertIs(is_plain(read_program("global a: 0..7\ndef main()\n  a = (1000 - 999)\n  assert (a < 500)\nend\n")), True)


if __name__ == "__main__":
    unittest.main()
