"""Points 10 and 22."""

import unittest

from neverhappens.layouts import Layout
from neverhappens.reading import read_program
from tests.samples import DOOR

TEXT = """\
record door
end
global a: 0..7
global b: 0..8
global c: flag
global d: door
global e: -100..100
def work(p: 3..20, q: door, r: -4..3): 0..8
  var s: 5..13
  var t: flag
  var u: 1..8
  if c
    while c
      break
    end
  else
    return 1
  end
  return 2
end
def small(x: 0..99): 0..7
end
def truth(): flag
end
def make(): door
end
def none(y: 10..50)
  var z: 0..1
end
def main()
end
"""

PROGRAM = read_program(TEXT)

BARE = read_program("def main()\nend\n")


class TestLayouts(unittest.TestCase):
    def check(self, layout, **wanted):
        for name, value in wanted.items():
            self.assertEqual(repr(getattr(layout, name)), repr(value), name)

    def test_names_of_every_kind(self):
        self.check(
            Layout(PROGRAM, "work"),
            program=PROGRAM,
            name="work",
            result=("num", 0, 8),
            exit=5,
            kinds={
                "a": ("num", 0, 7), "b": ("num", 0, 8), "c": ("flag",), "d": ("ref", "door"),
                "e": ("num", -100, 100), "p": ("num", 3, 20), "q": ("ref", "door"),
                "r": ("num", -4, 3), "s": ("num", 5, 13), "t": ("flag",), "u": ("num", 1, 8),
            },
            discrete=("a", "c", "d", "q", "r", "t", "u"),
            large=("b", "e", "p", "s"),
            entry_discrete=("a", "c", "d", "q", "r"),
            entry_large=("b", "e", "p"),
            exit_discrete=("a", "c", "d"),
            exit_large=("b", "e", "result"),
            ranges=((0, 8), (-100, 100), (3, 20), (5, 13), (0, 8), (-100, 100), (3, 20)),
            exit_ranges=((0, 8), (-100, 100), (0, 8), (0, 8), (-100, 100), (3, 20)),
        )

    def test_small_result(self):
        self.check(
            Layout(PROGRAM, "small"),
            result=("num", 0, 7),
            exit=0,
            discrete=("a", "c", "d"),
            large=("b", "e", "x"),
            entry_discrete=("a", "c", "d"),
            entry_large=("b", "e", "x"),
            exit_discrete=("a", "c", "d", "result"),
            exit_large=("b", "e"),
            ranges=((0, 8), (-100, 100), (0, 99), (0, 8), (-100, 100), (0, 99)),
            exit_ranges=((0, 8), (-100, 100), (0, 8), (-100, 100), (0, 99)),
        )

    def test_flag_and_reference_as_results(self):
        for name, result in (("truth", ("flag",)), ("make", ("ref", "door"))):
            self.check(
                Layout(PROGRAM, name),
                result=result,
                exit_discrete=("a", "c", "d", "result"),
                exit_large=("b", "e"),
                exit_ranges=((0, 8), (-100, 100), (0, 8), (-100, 100)),
            )

    def test_no_result(self):
        self.check(
            Layout(PROGRAM, "none"),
            result=None,
            discrete=("a", "c", "d", "z"),
            large=("b", "e", "y"),
            entry_discrete=("a", "c", "d"),
            exit_discrete=("a", "c", "d"),
            exit_large=("b", "e"),
            ranges=((0, 8), (-100, 100), (10, 50), (0, 8), (-100, 100), (10, 50)),
            exit_ranges=((0, 8), (-100, 100), (0, 8), (-100, 100), (10, 50)),
        )

    def test_main(self):
        self.check(
            Layout(PROGRAM, "main"),
            name="main",
            result=None,
            exit=0,
            kinds={
                "a": ("num", 0, 7), "b": ("num", 0, 8), "c": ("flag",), "d": ("ref", "door"),
                "e": ("num", -100, 100),
            },
            discrete=("a", "c", "d"),
            large=("b", "e"),
            entry_discrete=("a", "c", "d"),
            entry_large=("b", "e"),
            exit_discrete=("a", "c", "d"),
            exit_large=("b", "e"),
            ranges=((0, 8), (-100, 100), (0, 8), (-100, 100)),
            exit_ranges=((0, 8), (-100, 100), (0, 8), (-100, 100)),
        )

    def test_without_anything(self):
        layout = Layout(BARE, "main")
        self.check(layout, result=None, exit=0, kinds={})
        for name in ("discrete", "large", "entry_discrete", "entry_large", "exit_discrete",
                     "exit_large", "ranges", "exit_ranges"):
            self.assertEqual(getattr(layout, name), (), name)

    def test_program_of_the_document(self):
        self.check(
            Layout(DOOR, "shut"),
            exit=6,
            discrete=("last", "d", "times", "was"),
            large=(),
            entry_discrete=("last", "d", "times"),
            exit_discrete=("last", "result"),
            ranges=(),
            exit_ranges=(),
        )
        self.check(Layout(DOOR, "main"), exit=3, discrete=("last", "d"))

    def test_a_function_that_is_not_the_first_with_its_locals(self):
        # The locals of the other functions are not visible.
        self.assertNotIn("s", Layout(PROGRAM, "small").kinds)
        self.assertNotIn("x", Layout(PROGRAM, "work").kinds)

    def test_each_layout_has_its_own_dict(self):
        first = Layout(PROGRAM, "work")
        first.kinds["more"] = ("flag",)
        self.assertNotIn("more", Layout(PROGRAM, "work").kinds)


if __name__ == "__main__":
    unittest.main()
