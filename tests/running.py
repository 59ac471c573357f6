"""The tests of runs (points 24 to 29), for Machine and Walker alike."""

import random

from neverhappens.reading import read_program
from tests.making import RightMaker
from tests.reference import Reference
from tests.samples import DOOR

WORLD = """\
record door
  open: flag
  many: -1..3
end
record house
  front: door
  count: 2..5
end
array row[3]: 0..9
array col[2]: -5..-2
global g: 0..9
global t: flag
global d: door
"""

NUMBERS = [-10 ** 40 - 1, -10 ** 40, -9, -8, -7, -6, -5, -4, -3, -2, -1, 0, 1, 2, 3, 4, 5, 6, 7, 8,
           9, 10 ** 40, 10 ** 40 + 1]


def told(run):
    """All that a run tells, as a text in which False is not 0."""
    return repr((run.outcome(), run.state(), run.visits, run.reads))


class RunCases:
    """A test case that inherits from this gives `made` and `ran`: Machine and run, or their like."""

    def go(self, text, inputs=(), visits=None):
        """The run of a program after some visits, or at its end."""
        run = self.made(read_program(text), list(inputs))
        count = 0
        while run.outcome()[0] == "going" and (visits is None or count < visits):
            self.assertEqual(run.visits, count)
            self.assertIsNone(run.visit())
            count += 1
            self.assertLess(count, 10000)
        return run

    def main(self, lines, inputs=(), visits=None, own=(), more=""):
        """The run of the world with a function main that has these lines and locals."""
        declared = ["  var " + local + "\n" for local in own]
        body = ["  " + line + "\n" for line in lines]
        text = WORLD + more + "def main()\n" + "".join(declared) + "".join(body) + "end\n"
        return self.go(text, inputs, visits)

    def values(self, run):
        """The values of the top frame."""
        return run.state()[0][-1][2]

    def check(self, found, wanted):
        self.assertEqual(repr(found), repr(wanted))

    def faulty(self, run, place, fault, visits=None, function="main"):
        """The run has ended with this fault."""
        self.check(run.outcome(), ("fault", function, place, fault))
        if visits is not None:
            self.assertEqual(run.visits, visits)

    # The start (points 25 and 28)

    def test_start(self):
        run = self.main(["g = 1"], [5], 0, ["a: 0..9", "b: flag", "c: house", "e: 3..4", "f: -4..-2"])
        self.check(run.outcome(), ("going", "main", 0))
        self.check(run.state(), (
            (("main", 0, (0, False, None, 3, -2)),),
            (0, False, None),
            ((0, 0, 0), (-2, -2)),
            (),
        ))
        self.check((run.visits, run.reads), (0, 0))

    def test_asked_twice(self):
        run = self.main(["d = new", "assert false"])
        self.check(run.state(), run.state())
        self.check(run.outcome(), run.outcome())
        self.assertEqual(run.visits, 2)

    def test_main_without_statements(self):
        run = self.main([], [1, 2], own=["a: 0..9"])
        self.check(run.outcome(), ("end",))
        self.check(run.state(), ((), (0, False, None), ((0, 0, 0), (-2, -2)), ()))
        self.check((run.visits, run.reads), (0, 0))
        run.visit()
        self.check((run.outcome(), run.visits), (("end",), 0))

    # Each statement (points 9 and 26)

    def test_set(self):
        run = self.main(["g = 7", "a = (g - 8)", "t = (a < g)", "d = null"], own=["a: -3..3"], visits=3)
        self.check(run.state()[0], (("main", 3, (-1,)),))
        self.check(run.state()[1], (7, True, None))

    def test_set_reference(self):
        run = self.main(["a = new", "d = a", "t = (d same a)", "g = 1"], own=["a: door"], visits=3)
        self.check(run.state()[0][0][2], (0,))
        self.check(run.state()[1], (0, True, 0))

    def test_set_out_of_range(self):
        for value in (-1, 10, 1000, -10 ** 9):
            run = self.main(["t = true", "g = " + str(value)])
            self.faulty(run, 1, "range", 2)
            self.check(run.state()[1], (0, True, None))
        for value in (0, 9):
            self.check(self.main(["g = " + str(value)]).outcome(), ("end",))
        self.faulty(self.main(["a = -4"], own=["a: -3..3"]), 0, "range", 1)
        self.faulty(self.main(["a = (2 * 2)"], own=["a: -3..3"]), 0, "range", 1)
        self.check(self.main(["a = 3", "a = -3"], own=["a: -3..3"]).outcome(), ("end",))

    def test_input_of_numbers(self):
        for low, high in ((0, 9), (-3, 3), (5, 5), (2, 9), (-9, -2), (0, 1), (-100, 100)):
            kind = "a: " + str(low) + ".." + str(high)
            for number in NUMBERS:
                run = self.main(["a = input", "g = 1"], [number], 1, [kind])
                value, = self.values(run)
                self.assertIs(type(value), int)
                self.assertIn(value, range(low, high + 1))
                # The number and the distance from lo differ by a multiple of the kind's size.
                self.assertEqual(abs(number - (value - low)) % (high - low + 1), 0)

    def test_input_examples(self):
        for number, wanted in ((0, 2), (3, 5), (7, 9), (8, 2), (-1, 9), (-8, 2), (-9, 9)):
            run = self.main(["a = input", "g = 1"], [number], 1, ["a: 2..9"])
            self.check(self.values(run), (wanted,))

    def test_input_of_flags(self):
        for number in NUMBERS:
            run = self.main(["t = input", "g = 1"], [number], 1)
            self.check(run.state()[1][1], number - 2 * (number // 2) == 1)

    def test_inputs_in_order_and_used_up(self):
        lines = ["a = input", "b = input", "a = input", "c = input", "t = input", "g = 1"]
        run = self.main(lines, [4, -1, 6], 5, ["a: 0..9", "b: 0..9", "c: 3..9"])
        self.check(self.values(run), (6, 9, 3))
        self.check(run.state()[1][1], False)
        self.check((run.visits, run.reads), (5, 5))

    def test_reads_count_inputs_alone(self):
        run = self.main(["g = 1", "g = input", "g = 2", "g = input"], [5], 2)
        self.check((run.visits, run.reads), (2, 1))
        run = self.main(["g = 1", "g = input", "g = 2", "g = input"], [5])
        self.check((run.visits, run.reads), (4, 2))

    def test_new(self):
        run = self.main(["d = new", "a = new", "d = new", "g = 1"], own=["a: house"], visits=3)
        self.check(run.state()[3], (
            ("door", True, (False, 0)),
            ("house", True, (None, 2)),
            ("door", True, (False, 0)),
        ))
        self.check(run.state()[1][2], 2)
        self.check(self.values(run), (1,))

    def test_new_record_without_fields(self):
        run = self.go("record r\nend\ndef main()\n  var a: r\n  a = new\n  free a\n  a = new\n"
                      "  a = null\nend\n", visits=3)
        self.check(run.state()[3], (("r", False, ()), ("r", True, ())))

    def test_free(self):
        run = self.main(["d = new", "d.many = 2", "free d", "g = 1"], visits=3)
        self.check(run.state()[1][2], 0)
        self.check(run.state()[3], (("door", False, ()),))

    def test_free_faults(self):
        self.faulty(self.main(["free d"]), 0, "null", 1)
        self.faulty(self.main(["d = new", "free d", "free d"]), 2, "gone", 3)
        run = self.main(["a = new", "d = a", "free a", "free d"], own=["a: door"])
        self.faulty(run, 3, "gone", 4)

    def test_store_and_load(self):
        lines = ["a = new", "d = new", "a.front = d", "d.many = 3", "d.open = true", "a.count = 5",
                 "d = null", "d = a.front", "t = d.open", "b = d.many", "c = a.count", "g = 1"]
        run = self.main(lines, own=["a: house", "b: -1..3", "c: 2..5"], visits=11)
        self.check(self.values(run), (0, 3, 5))
        self.check(run.state()[1], (0, True, 1))
        self.check(run.state()[3], (("house", True, (1, 5)), ("door", True, (True, 3))))

    def test_two_names_for_one_record(self):
        run = self.main(["a = new", "d = a", "d.many = 2", "b = a.many", "g = 1"],
                        own=["a: door", "b: -1..3"], visits=4)
        self.check(self.values(run), (0, 2))

    def test_load_faults(self):
        self.faulty(self.main(["t = d.open"]), 0, "null", 1)
        self.faulty(self.main(["d = new", "free d", "t = d.open"]), 2, "gone", 3)
        run = self.main(["a = new", "d = new", "a.front = d", "free d", "d = null", "d = a.front",
                         "t = d.open"], own=["a: house"])
        self.faulty(run, 6, "gone", 7)

    def test_store_faults(self):
        self.faulty(self.main(["d.open = true"]), 0, "null", 1)
        self.faulty(self.main(["d = new", "free d", "d.open = true"]), 2, "gone", 3)
        for value in (-2, 4, 100):
            run = self.main(["d = new", "d.many = 1", "d.many = " + str(value)])
            self.faulty(run, 2, "range", 3)
            self.check(run.state()[3], (("door", True, (False, 1)),))
        run = self.main(["d = new", "d.many = -1", "d.many = 3"])
        self.check(run.outcome(), ("end",))
        self.check(run.state()[3], (("door", True, (False, 3)),))

    def test_store_with_two_faults_at_once(self):
        self.faulty(self.main(["d.many = 9"]), 0, "null", 1)
        self.faulty(self.main(["d = new", "free d", "d.many = 9"]), 2, "gone", 3)

    def test_get_and_put(self):
        run = self.main(["row[0] = 4", "row[2] = 9", "g = row[2]", "a = col[1]", "col[1] = -5",
                         "row[(g - 8)] = (g - 9)", "g = 1"], own=["a: -5..-2"], visits=6)
        self.check(run.state()[1][0], 9)
        self.check(self.values(run), (-2,))
        self.check(run.state()[2], ((4, 0, 9), (-2, -5)))

    def test_get_faults(self):
        for index in (-1, 3, -3, 10 ** 9, -10 ** 9):
            self.faulty(self.main(["g = row[" + str(index) + "]"]), 0, "index", 1)
        for index in (0, 2):
            self.check(self.main(["g = row[" + str(index) + "]"]).outcome(), ("end",))

    def test_put_faults(self):
        for index in (-1, 3, 100):
            run = self.main(["row[" + str(index) + "] = 5"])
            self.faulty(run, 0, "index", 1)
            self.check(run.state()[2], ((0, 0, 0), (-2, -2)))
        for value in (-1, 10):
            run = self.main(["row[1] = " + str(value)])
            self.faulty(run, 0, "range", 1)
            self.check(run.state()[2], ((0, 0, 0), (-2, -2)))
        self.faulty(self.main(["col[0] = -1"]), 0, "range", 1)
        self.faulty(self.main(["col[0] = -6"]), 0, "range", 1)

    def test_put_with_two_faults_at_once(self):
        self.faulty(self.main(["row[3] = 10"]), 0, "index", 1)
        self.faulty(self.main(["row[-1] = -1"]), 0, "index", 1)

    def test_assert(self):
        self.check(self.main(["assert true", "assert (g < 1)"]).outcome(), ("end",))
        run = self.main(["g = 1", "assert (g < 1)"])
        self.faulty(run, 1, "assert", 2)
        self.check(run.state(), (
            (("main", 1, ()),), (1, False, None), ((0, 0, 0), (-2, -2)), (),
        ))

    # Bodies (point 27)

    def test_if(self):
        for value, places in ((1, [0, 1, 2, 5]), (0, [0, 1, 3, 4, 5])):
            lines = ["g = input", "if (g == 1)", "  g = 2", "else", "  g = 3", "  g = 4", "end",
                     "t = true"]
            self.check(self.places(lines, [value]), places)

    def places(self, lines, inputs=(), own=()):
        """The places that a run of main visits."""
        found = []
        while True:
            run = self.main(lines, inputs, len(found), own)
            if run.outcome()[0] != "going":
                return found
            found.append(run.outcome()[2])

    def test_empty_bodies(self):
        self.check(self.places(["if true", "end", "g = 1"]), [0, 1])
        self.check(self.places(["if false", "end", "g = 1"]), [0, 1])
        self.check(self.places(["if true", "else", "  g = 2", "end", "g = 1"]), [0, 2])
        self.check(self.places(["if false", "  g = 2", "end", "g = 1"]), [0, 2])
        self.check(self.places(["if true", "end"]), [0])
        self.check(self.places(["while false", "end", "g = 1"]), [0, 1])

    def test_empty_while_goes_on_for_ever(self):
        run = self.main(["while true", "end"], visits=100)
        self.check((run.outcome(), run.visits), (("going", "main", 0), 100))

    def test_while(self):
        self.check(self.places(["while (g < 3)", "  g = (g + 1)", "end", "t = true"]),
                   [0, 1, 0, 1, 0, 1, 0, 2])

    def test_while_at_the_end(self):
        self.check(self.places(["while (g < 2)", "  g = (g + 1)", "end"]), [0, 1, 0, 1, 0])

    def test_if_at_the_end_of_a_while(self):
        lines = ["while (g < 2)", "  g = (g + 1)", "  if (g == 1)", "    t = true", "  end", "end"]
        self.check(self.places(lines), [0, 1, 2, 3, 0, 1, 2, 0])

    def test_break(self):
        lines = ["while true", "  g = (g + 1)", "  if (g == 2)", "    break", "  end", "end", "t = true"]
        self.check(self.places(lines), [0, 1, 2, 0, 1, 2, 3, 4])

    def test_break_at_the_end(self):
        self.check(self.places(["while true", "  break", "  g = 1", "end"]), [0, 1])

    def test_break_leaves_the_innermost_while(self):
        lines = ["while (g < 2)", "  while true", "    if true", "      break", "    end", "  end",
                 "  g = (g + 1)", "end"]
        self.check(self.places(lines), [0, 1, 2, 3, 4, 0, 1, 2, 3, 4, 0])

    def test_return_in_a_while(self):
        self.check(self.places(["while true", "  if (g == 1)", "    return", "  end", "  g = 1",
                                "end"]), [0, 1, 3, 0, 1, 2])

    def test_eight_deep(self):
        lines = []
        for depth in range(8):
            word = "while (g < 1)" if depth % 2 else "if (g < 1)"
            lines.append("  " * depth + word)
        lines.append("  " * 8 + "g = 1")
        lines += ["  " * depth + "end" for depth in reversed(range(8))]
        self.check(self.places(lines), [0, 1, 2, 3, 4, 5, 6, 7, 8, 7, 5, 3, 1])

    # Calls (points 26 and 27)

    def test_call_and_result(self):
        more = "def f(p: 0..9, q: flag, r: door): 0..9\n  var v: 3..4\n  v = 4\n  return (p + 1)\nend\n"
        lines = ["d = new", "g = f((g + 3), true, d)", "t = true"]
        run = self.main(lines, visits=2, more=more)
        self.check(run.outcome(), ("going", "f", 0))
        self.check(run.state()[0], (("main", 1, ()), ("f", 0, (3, True, 0, 3))))
        run = self.main(lines, visits=3, more=more)
        self.check(run.state()[0], (("main", 1, ()), ("f", 1, (3, True, 0, 4))))
        self.check(run.state()[1][0], 0)
        run = self.main(lines, visits=4, more=more)
        self.check(run.outcome(), ("going", "main", 2))
        self.check(run.state()[0], (("main", 2, ()),))
        self.check(run.state()[1][0], 4)

    def test_results_of_each_kind(self):
        more = ("def truth(): flag\n  return true\nend\ndef make(): door\n  var a: door\n  a = new\n"
                "  return a\nend\ndef none(): door\n  return null\nend\n")
        run = self.main(["t = truth()", "d = make()", "a = none()", "g = 1"], own=["a: door"],
                        visits=7, more=more)
        self.check(run.outcome(), ("going", "main", 3))
        self.check(run.state()[1], (0, True, 0))
        self.check(self.values(run), (None,))

    def test_result_into_a_local_and_into_nothing(self):
        more = "def f(): 0..9\n  return 7\nend\n"
        run = self.main(["a = f()", "f()", "t = true"], own=["a: 0..9"], visits=4, more=more)
        self.check(run.state()[0], (("main", 2, (7,)),))
        self.check(run.state()[1], (0, False, None))

    def test_call_faults(self):
        more = "def f(p: flag, q: 2..5)\nend\n"
        for value in (1, 6, -3):
            run = self.main(["f(true, " + str(value) + ")"], more=more)
            self.faulty(run, 0, "range", 1)
            self.check(run.state()[0], (("main", 0, ()),))
        for value in (2, 5):
            run = self.main(["f(true, " + str(value) + ")"], more=more)
            self.check((run.outcome(), run.visits), (("end",), 1))

    def test_call_with_a_later_argument_out_of_range(self):
        more = "def f(p: 0..1, q: 0..1, r: 0..1)\n  t = true\nend\n"
        for text in ("2, 0, 0", "0, 2, 0", "0, 0, 2", "2, 2, 2", "-1, 0, 0"):
            self.faulty(self.main(["f(" + text + ")"], more=more), 0, "range", 1)

    def test_return_faults(self):
        more = "def f(p: 0..99): 2..5\n  return p\nend\n"
        for value in (0, 1, 6, 99):
            run = self.main(["f(" + str(value) + ")"], more=more)
            self.faulty(run, 0, "range", 2, "f")
            self.check(run.state()[0], (("main", 0, ()), ("f", 0, (value,))))
        for value in (2, 5):
            run = self.main(["f(" + str(value) + ")"], more=more)
            self.check((run.outcome(), run.visits), (("end",), 2))

    def test_fault_in_a_deeper_frame(self):
        more = ("def f(p: 0..9)\n  g = p\n  h(p)\nend\ndef h(q: 0..9)\n  var v: flag\n  v = true\n"
                "  assert (q == 0)\nend\n")
        run = self.main(["f(4)", "t = true"], more=more)
        self.faulty(run, 1, "assert", 5, "h")
        self.check(run.state()[0], (("main", 0, ()), ("f", 1, (4,)), ("h", 1, (4, True))))
        self.check(run.state()[1], (4, False, None))

    def test_end_without_a_return(self):
        for kind, wanted in (("0..9", 0), ("3..9", 3), ("-9..-4", -4)):
            more = "def f(): " + kind + "\n  t = true\nend\n"
            first = wanted - 1 if wanted == -4 else wanted + 1
            run = self.main(["a = " + str(first), "a = f()", "g = 1"], own=["a: " + kind],
                            visits=3, more=more)
            self.check(run.outcome(), ("going", "main", 2))
            self.check(self.values(run), (wanted,))
        more = "def f(): flag\n  g = 1\nend\n"
        run = self.main(["t = true", "t = f()", "g = 2"], visits=3, more=more)
        self.check(run.state()[1], (1, False, None))
        more = "def f(): door\n  g = 1\nend\n"
        run = self.main(["d = new", "d = f()", "g = 2"], visits=3, more=more)
        self.check(run.state()[1], (1, False, None))

    def test_function_without_statements(self):
        more = "def f(p: 0..9): 3..9\nend\ndef n()\nend\n"
        run = self.main(["a = 9", "a = f(5)", "n()", "t = true"], own=["a: 3..9"], visits=2, more=more)
        self.check(run.outcome(), ("going", "main", 2))
        self.check(run.state()[0], (("main", 2, (3,)),))
        run = self.main(["a = 9", "a = f(5)", "n()", "t = true"], own=["a: 3..9"], visits=3, more=more)
        self.check((run.outcome(), run.visits), (("going", "main", 3), 3))

    def test_end_of_main_by_an_empty_function(self):
        run = self.main(["n()"], more="def n()\nend\n")
        self.check((run.outcome(), run.visits, run.state()[0]), (("end",), 1, ()))

    def test_ends_of_several_frames_at_once(self):
        more = ("def a(): 1..9\n  var x: 2..9\n  x = 5\n  x = b()\nend\ndef b(): 2..9\n"
                "  var y: 3..9\n  y = 5\n  y = c()\nend\ndef c(): 3..9\n  return 7\nend\n")
        run = self.main(["g = a()", "t = true"], visits=5, more=more)
        self.check(run.state()[0], (("main", 0, ()), ("a", 1, (5,)), ("b", 1, (5,)), ("c", 0, ())))
        run = self.main(["g = a()", "t = true"], visits=6, more=more)
        # What b and a return is their start value, not what they were given.
        self.check(run.outcome(), ("going", "main", 1))
        self.check(run.state()[1][0], 1)
        run = self.main(["g = a()"], more=more)
        self.check((run.outcome(), run.visits), (("end",), 6))
        self.check(run.state(), ((), (1, False, None), ((0, 0, 0), (-2, -2)), ()))

    def test_call_at_the_end_of_a_while(self):
        more = "def f()\n  g = (g + 1)\nend\n"
        run = self.main(["while (g < 2)", "  f()", "end"], more=more)
        self.check((run.outcome(), run.visits), (("end",), 7))
        run = self.main(["while (g < 2)", "  f()", "end"], visits=3, more=more)
        self.check(run.outcome(), ("going", "main", 0))

    def test_call_in_an_if_at_the_end(self):
        more = "def f()\n  if true\n    return\n  end\n  g = 5\nend\n"
        run = self.main(["if true", "  f()", "else", "  g = 3", "end"], more=more)
        self.check((run.outcome(), run.visits), (("end",), 4))
        self.check(run.state()[1][0], 0)

    def test_recursion(self):
        more = "def f(n: 0..20): 0..500\n  var r: 0..500\n  if (n == 0)\n    return 0\n  end\n" \
               "  r = f((n - 1))\n  return (r + n)\nend\n"
        run = self.main(["a = f(20)", "t = true"], own=["a: 0..500"], visits=63, more=more)
        self.check(run.outcome(), ("going", "main", 1))
        self.check(self.values(run), (210,))
        run = self.main(["a = f(20)", "t = true"], own=["a: 0..500"], visits=42, more=more)
        self.assertEqual(len(run.state()[0]), 22)
        self.check(run.state()[0][3], ("f", 2, (18, 0)))

    def test_recursion_without_end(self):
        run = self.go("def main()\n  main()\nend\n", visits=3000)
        self.check((run.outcome(), run.visits), (("going", "main", 0), 3000))
        self.assertEqual(run.state()[0], (("main", 0, ()),) * 3001)

    def test_deep_frames_that_end_at_once(self):
        run = self.go("def f(n: 0..3000)\n  if (0 < n)\n    f((n - 1))\n  end\nend\n"
                      "def main()\n  f(2000)\nend\n")
        self.check((run.outcome(), run.visits), (("end",), 4002))

    def test_frames_of_one_function_have_their_own_values(self):
        more = "def f(n: 0..9)\n  var v: 0..9\n  v = n\n  if (0 < n)\n    f((n - 1))\n  end\n" \
               "  g = v\nend\n"
        run = self.main(["f(2)", "t = true"], more=more, visits=9)
        self.check(run.state()[0], (("main", 0, ()), ("f", 2, (2, 2)), ("f", 2, (1, 1)),
                                    ("f", 3, (0, 0))))
        run = self.main(["f(2)", "t = true"], more=more, visits=12)
        self.check((run.outcome(), run.state()[1][0]), (("going", "main", 1), 2))

    # After the end (point 28)

    def test_visits_after_the_end(self):
        run = self.main(["g = 5"])
        before = told(run)
        self.check(run.outcome(), ("end",))
        for _ in range(3):
            self.assertIsNone(run.visit())
        self.assertEqual(told(run), before)

    def test_visits_after_a_fault(self):
        run = self.main(["t = input", "g = 10", "g = 3"], [3, 4])
        before = told(run)
        self.check((run.visits, run.reads), (2, 1))
        for _ in range(3):
            self.assertIsNone(run.visit())
        self.assertEqual(told(run), before)

    # Lists that were passed (point 1)

    def test_list_that_is_changed_afterwards(self):
        program = read_program("global a: 0..99\ndef main()\n  a = input\n  a = input\n  a = input\n"
                               "  a = input\nend\n")
        inputs = [5, 6]
        run = self.made(program, inputs)
        run.visit()
        inputs[1] = 7
        inputs.append(8)
        run.visit()
        self.check(run.state()[1], (6,))
        run.visit()
        self.check(run.state()[1], (0,))
        inputs.clear()
        run.visit()
        self.check((inputs, run.reads, run.outcome()), ([], 4, ("end",)))

    def test_arguments_are_not_changed(self):
        program = read_program("global a: 0..99\ndef main()\n  a = input\nend\n")
        inputs = [5, 6]
        self.ran(program, inputs, 10)
        self.assertEqual(inputs, [5, 6])

    def test_runs_of_one_program_have_nothing_in_common(self):
        first = self.made(DOOR, [])
        second = self.made(DOOR, [])
        first.visit()
        self.check(second.state(), ((("main", 0, (None,)),), (None,), (), ()))
        self.check(first.state(), ((("main", 1, (0,)),), (None,), (), (("door", True, (False,)),)))

    # Whole runs (point 29)

    def test_run(self):
        text = "global a: 0..9\ndef main()\n  a = input\n  while true\n    a = (a + 1)\n  end\nend\n"
        program = read_program(text)
        self.check(self.ran(program, [7], 0), (("going", "main", 0), 0, 0))
        self.check(self.ran(program, [7], 1), (("going", "main", 1), 1, 1))
        self.check(self.ran(program, [7], 6), (("going", "main", 2), 6, 1))
        self.check(self.ran(program, [7], 7), (("fault", "main", 2, "range"), 7, 1))
        self.check(self.ran(program, [7], 3000), (("fault", "main", 2, "range"), 7, 1))
        self.check(self.ran(program, [], 3000), (("fault", "main", 2, "range"), 21, 1))

    def test_run_to_the_end(self):
        program = read_program("global a: flag\ndef main()\n  a = input\n  a = input\nend\n")
        self.check(self.ran(program, [1], 1), (("going", "main", 1), 1, 1))
        self.check(self.ran(program, [1], 2), (("end",), 2, 2))
        self.check(self.ran(program, [1], 50), (("end",), 2, 2))
        self.check(self.ran(read_program("def main()\nend\n"), [], 5), (("end",), 0, 0))

    def test_run_of_the_documents_program(self):
        self.check(self.ran(DOOR, [], 0), (("going", "main", 0), 0, 0))
        self.check(self.ran(DOOR, [], 3), (("going", "shut", 0), 3, 0))
        # A round from the while on has six visits.
        self.check(self.ran(DOOR, [], 3000), (("going", "shut", 5), 3000, 0))

    def test_run_with_many_inputs(self):
        program = read_program("global a: 0..9\ndef main()\n  while true\n    a = input\n  end\nend\n")
        self.check(self.ran(program, list(range(2000)), 3000), (("going", "main", 0), 3000, 1500))

    # Programs by chance, against a second way to run them

    def test_programs_by_chance(self):
        for seed in range(400):
            program = RightMaker(seed).program()
            chance = random.Random(seed)
            inputs = [chance.randrange(-50, 50) for _ in range(chance.randrange(20))]
            run = self.made(program, inputs)
            other = Reference(program, inputs)
            for visits in range(60):
                self.assertEqual(told(run), told(other))
                if visits % 20 == 0:
                    self.check(self.ran(program, inputs, visits),
                               (other.outcome(), other.visits, other.reads))
                run.visit()
                other.visit()
