"""Points 53 and 54."""

import unittest

from neverhappens.calls import back, enter
from neverhappens.layouts import Layout
from neverhappens.reading import read_program
from neverhappens.zones import bound, range_box
from tests.slow import NO_COLUMNS

LEAF = ("leaf", True, (0,))
GONE = ("leaf", False, ())
WORLD = """\
record leaf
  n: 0..3
end
record tree
  left: leaf
  right: leaf
end
global t: flag
global big: 0..50
global last: leaf
"""
EMPTY = "def none()\nend\n"


def equal_columns(box, *pairs):
    """The points of the box in which the first column of each pair is the second one plus a number."""
    for first, second, more in pairs:
        box = bound(bound(box, first, second, more), second, first, -more)
    return box


def full(number):
    return ("leaf", True, (number,))


class CallCase(unittest.TestCase):
    """A call in a function f, whose line is told, of a function g, whose text is told."""

    # The columns of f: big, v, big at first. The discrete names: t, last, s, q, h, m.
    box = range_box(((0, 50), (-9, 30), (0, 50)))
    key = ((False, None, 0, None, None, False), ())

    def world(self, line, called, more="  t = t\n"):
        program = read_program(
            WORLD + called + "def f()\n  var v: -9..30\n  var s: 0..2\n  var q: leaf\n  var h: tree\n"
            "  var m: flag\n  " + line + "\n" + more + "end\ndef main()\nend\n")
        return Layout(program, "f"), Layout(program, "g")

    def key_with(self, records, **changed):
        names = dict(zip(("t", "last", "s", "q", "h", "m"), self.key[0]))
        self.assertLessEqual(set(changed), set(names))
        return (tuple({**names, **changed}.values()), records)

    def enter(self, line, called, key=None, box=None):
        layout, callee = self.world(line, called)
        return enter(layout, callee, 0, key or self.key, box or self.box)

    def check(self, found, faults, *entered):
        self.assertEqual(repr(found), repr((tuple(faults), tuple(entered))))

    def back(self, line, called, exit_values, exit_box, key=None, box=None, records=(), fixed=0, at=0,
             more="  t = t\n"):
        """What `back` returns for a call whose only member, or the one that is told, is entered."""
        layout, callee = self.world(line, called, more)
        key = key or self.key
        _, members = enter(layout, callee, 0, key, box or self.box)
        return back(layout, fixed, 0, key, members[at], callee, (exit_values, records), exit_box)


class TestEnter(CallCase):
    def test_no_arguments(self):
        called = "def g()\n  t = true\nend\n"
        begun = equal_columns(range_box(((0, 50), (0, 50))), (1, 2, 0))
        self.check(self.enter("g()", called), [],
                   (((False, None), ()), 0, ((False, None), ()), begun, self.box, ()))
        self.check(self.enter("g()", called, box=range_box(((7, 8), (-9, 3), (4, 5)))), [],
                   (((False, None), ()), 0, ((False, None), ()),
                    equal_columns(range_box(((7, 8), (7, 8))), (1, 2, 0)), range_box(((7, 8), (-9, 3), (4, 5))), ()))

    def test_without_names(self):
        program = read_program("def g()\n  g()\nend\ndef main()\n  g()\n  g()\nend\n")
        self.check(enter(Layout(program, "main"), Layout(program, "g"), 0, ((), ()), NO_COLUMNS), [],
                   (((), ()), 0, ((), ()), NO_COLUMNS, NO_COLUMNS, ()))

    def test_locals_of_all_kinds(self):
        called = "def g()\n  var a: 3..4\n  var b: 5..90\n  var c: flag\n  var d: leaf\n  var e: -90..-8\n  t = true\nend\n"
        begun = equal_columns(range_box(((0, 50), (5, 5), (-8, -8), (0, 50))), (1, 4, 0))
        self.check(self.enter("g()", called), [],
                   (((False, None), ()), 0, ((False, None, 3, False, None), ()), begun, self.box, ()))

    def test_flag_argument(self):
        called = "def g(a: flag)\n  t = true\nend\n"

        def member(value, box):
            big = box[0][1], box[1][0]
            begun = equal_columns(range_box(((-big[0], big[1]),) * 2), (1, 2, 0))
            return (((False, None, value), ()), 0, ((False, None, value), ()), begun, box, ())

        low, high = range_box(((0, 9), (-9, 30), (0, 50))), range_box(((10, 50), (-9, 30), (0, 50)))
        self.check(self.enter("g((big < 10))", called), [], member(False, high), member(True, low))
        self.check(self.enter("g((big < 10))", called, box=low), [], member(True, low))
        self.check(self.enter("g(true)", called), [], member(True, self.box))
        self.check(self.enter("g(m)", called), [], member(False, self.box))

    def test_small_number_argument(self):
        called = "def g(a: 1..3)\n  t = true\nend\n"

        def member(value, box):
            begun = equal_columns(range_box(((0, 50), (0, 50))), (1, 2, 0))
            return (((False, None, value), ()), 0, ((False, None, value), ()), begun, box, ())

        def cut(low, high):
            return range_box(((0, 50), (low, high), (0, 50)))

        self.check(self.enter("g(2)", called), [], member(2, self.box))
        self.check(self.enter("g(0)", called), ["range"])
        self.check(self.enter("g(4)", called), ["range"])
        self.check(self.enter("g((s + 1))", called), [], member(1, self.box))
        self.check(self.enter("g(v)", called), ["range"], *[member(at, cut(at, at)) for at in (1, 2, 3)])
        self.check(self.enter("g(v)", called, box=cut(2, 3)), [], *[member(at, cut(at, at)) for at in (2, 3)])
        self.check(self.enter("g(v)", called, box=cut(0, 1)), ["range"], member(1, cut(1, 1)))
        self.check(self.enter("g(v)", called, box=cut(4, 5)), ["range"])

    def test_large_number_argument(self):
        called = "def g(a: 0..20)\n  var b: 0..9\n  t = true\nend\n"
        entry = ((False, None), ())
        # The new column of the caller is the fourth one.
        wide = equal_columns(range_box(((0, 50), (0, 20), (0, 50), (0, 20))), (4, 2, 0))
        begun = equal_columns(range_box(((0, 50), (0, 20), (0, 0), (0, 50), (0, 20))), (1, 4, 0), (2, 5, 0))
        self.check(self.enter("g(v)", called), ["range"], (entry, 0, entry, begun, wide, ()))
        wide = equal_columns(range_box(((0, 50), (0, 15), (0, 50), (5, 20))), (4, 2, 5))
        begun = equal_columns(range_box(((0, 50), (5, 20), (0, 0), (0, 50), (5, 20))), (1, 4, 0), (2, 5, 0))
        self.check(self.enter("g((v + 5))", called, box=range_box(((0, 50), (0, 15), (0, 50)))), [],
                   (entry, 0, entry, begun, wide, ()))
        wide = equal_columns(range_box(((0, 20), (-9, 30), (0, 50), (0, 20))), (4, 1, 0))
        begun = equal_columns(range_box(((0, 20), (0, 20), (0, 0), (0, 20), (0, 20))),
                              (1, 2, 0), (2, 4, 0), (4, 5, 0))
        self.check(self.enter("g(big)", called), ["range"], (entry, 0, entry, begun, wide, ()))
        self.check(self.enter("g(21)", called), ["range"])
        self.check(self.enter("g(-1)", called), ["range"])

    def test_reference_argument(self):
        called = "def g(a: leaf)\n  t = true\nend\n"
        begun = equal_columns(range_box(((0, 50), (0, 50))), (1, 2, 0))

        def member(values, records, links):
            return ((values, records), 0, (values, records), begun, self.box, links)

        key = self.key_with((full(3), full(1), ("tree", True, (0, 1))), last=0, q=1, h=2)
        self.check(self.enter("g(null)", called, key), [], member((False, 0, None), (full(3),), (0,)))
        self.check(self.enter("g(last)", called, key), [], member((False, 0, 0), (full(3),), (0,)))
        self.check(self.enter("g(q)", called, key), [], member((False, 0, 1), (full(3), full(1)), (0, 1)))
        key = self.key_with((full(3), full(1)), q=0)
        self.check(self.enter("g(q)", called, key), [], member((False, None, 0), (full(3),), (0,)))

    def test_records_that_are_found_by_way_of_fields(self):
        called = "def g(a: tree)\n  t = true\nend\n"
        key = self.key_with((full(3), GONE, ("tree", True, (1, 0))), q=0, h=2)
        _, (member,) = self.enter("g(h)", called, key)
        self.assertEqual(repr(member[0]), repr(((False, None, 0), (("tree", True, (1, 2)), GONE, full(3)))))
        self.assertEqual((member[0], member[5]), (member[2], (2, 1, 0)))

    def test_several_arguments(self):
        called = "def g(a: 0..1, b: flag, c: leaf)\n  t = true\nend\n"
        found = self.enter("g(v, (v < 1), null)", called)
        self.assertEqual(found[0], ("range",))
        # The box of the first argument decides the second one.
        self.assertEqual([member[0] for member in found[1]],
                         [((False, None, 0, True, None), ()), ((False, None, 1, False, None), ())])
        found = self.enter("g(v, (big < 1), null)", called)
        self.assertEqual([member[0][0][2:] for member in found[1]],
                         [(0, False, None), (0, True, None), (1, False, None), (1, True, None)])
        self.assertEqual([member[4] for member in found[1]], [
            range_box(((big[0], big[1]), (value, value), (0, 50)))
            for value in (0, 1) for big in ((1, 50), (0, 0))])

    def test_two_small_numbers(self):
        called = "def g(a: 0..1, b: 0..2)\n  t = true\nend\n"
        found = self.enter("g(v, big)", called)
        self.assertEqual([member[0][0][2:] for member in found[1]],
                         [(a, b) for a in (0, 1) for b in (0, 1, 2)])
        found = self.enter("g(v, (v + 1))", called)
        self.assertEqual([member[0][0][2:] for member in found[1]], [(0, 1), (1, 2)])
        found = self.enter("g(v, (v + 2))", called)
        self.assertEqual([member[0][0][2:] for member in found[1]], [(0, 2)])

    def test_range_on_the_box_that_earlier_arguments_left(self):
        called = "def g(a: 0..9, b: -1..9)\n  t = true\nend\n"
        self.assertEqual(self.enter("g(v, 1)", called, box=range_box(((0, 50), (0, 9), (0, 50))))[0], ())
        # The second argument is out of range nowhere where the first one is not.
        box = range_box(((0, 50), (0, 30), (0, 50)))
        self.assertEqual(self.enter("g((v - 20), 1)", called, box=box)[0], ("range",))
        self.assertEqual(self.enter("g(1, v)", called, box=box)[0], ("range",))
        self.assertEqual(self.enter("g(1, 2)", called, box=box)[0], ())
        flags = "def g(a: flag, b: 0..9)\n  t = true\nend\n"
        box = range_box(((0, 50), (0, 9), (0, 50)))
        self.assertEqual(self.enter("g((v < 10), v)", flags, box=box)[0], ())
        # With a false first argument nothing is left, so the second one is never looked at.
        self.assertEqual(self.enter("g(50, v)", called), (("range",), ()))
        self.assertEqual(self.enter("g(5, 10)", called), (("range",), ()))

    def test_faults_of_some_cases_alone(self):
        called = "def g(a: flag, b: 0..7)\n  t = true\nend\n"
        faults, members = self.enter("g((v < 8), v)", called, box=range_box(((0, 50), (7, 8), (0, 50))))
        self.assertEqual(faults, ("range",))
        self.assertEqual([member[0][0][2:] for member in members], [(True, 7)])

    def test_large_and_small_arguments_by_turns(self):
        called = "def g(a: 0..100, b: 0..1, c: 0..200)\n  var d: 9..90\n  t = true\nend\n"
        faults, members = self.enter("g((v + 10), s, (big + v))", called)
        self.assertEqual(faults, ("range",))
        (member,) = members
        self.assertEqual(member[0], ((False, None, 0), ()))
        wide = equal_columns(range_box(((0, 50), (-9, 30), (0, 50), (1, 40), (0, 80))), (4, 2, 10))
        self.assertEqual(member[4], wide)
        begun = equal_columns(range_box(((0, 50), (1, 40), (0, 80), (9, 9), (0, 50), (1, 40), (0, 80))),
                              (1, 5, 0), (2, 6, 0), (3, 7, 0))
        self.assertEqual(member[3], begun)

    def test_parameters_with_the_names_of_the_callers_locals(self):
        called = "def g(v: 0..90, s: 0..2, q: leaf)\n  t = true\nend\n"
        key = self.key_with((full(3),), q=0, s=1)
        faults, members = self.enter("g((v + 50), (s + 1), null)", called, key)
        self.assertEqual(faults, ())
        (member,) = members
        self.assertEqual(member[:3], (((False, None, 2, None), ()), 0, ((False, None, 2, None), ())))
        self.assertEqual(member[3], equal_columns(
            range_box(((0, 50), (41, 80), (0, 50), (41, 80))), (1, 3, 0), (2, 4, 0)))

    def test_function_without_statements(self):
        self.check(self.enter("g(v)", "def g(a: 0..20): 5..90\nend\n"), ["range"], (
            ((False, None), ()), 0, ((False, None), ()),
            equal_columns(range_box(((0, 50), (5, 5), (0, 50), (0, 20))), (1, 3, 0)),
            equal_columns(range_box(((0, 50), (0, 20), (0, 50), (0, 20))), (4, 2, 0)), ()))
        key = self.key_with((full(3),), q=0)
        self.check(self.enter("g(q)", "def g(a: leaf): 2..3\n  var b: flag\nend\n", key), [], (
            ((False, None, 0), (full(3),)), 0, ((False, None, 2), (full(3),)),
            equal_columns(range_box(((0, 50), (0, 50))), (1, 2, 0)), self.box, (0,)))

    def test_recursion(self):
        program = read_program("global big: 0..50\ndef g(a: 0..90)\n  var b: 0..70\n  g((a + b))\nend\n"
                               "def main()\nend\n")
        layout = Layout(program, "g")
        # big, a, b, and big and a at first.
        box = range_box(((0, 50), (10, 20), (3, 3), (7, 8), (10, 10)))
        wide = range_box(((0, 50), (10, 20), (3, 3), (7, 8), (10, 10), (13, 23)))
        begun = equal_columns(range_box(((0, 50), (13, 23), (0, 0), (0, 50), (13, 23))), (1, 4, 0), (2, 5, 0))
        self.check(enter(layout, layout, 0, ((), ()), box), [], (((), ()), 0, ((), ()), begun, wide, ()))


class TestBack(CallCase):
    def check(self, found, place, values, records, box):
        self.assertEqual(repr(found), repr((place, (values, records), box)))

    def test_no_result(self):
        called = "def g()\n  t = true\nend\n"
        # The callee's columns at the exit: big, big at first. It has added 5 to big.
        exit_box = equal_columns(range_box(((5, 50), (0, 45))), (1, 2, 5))
        self.check(self.back("g()", called, (True, None), exit_box), 1, (True, None, 0, None, None, False), (),
                   range_box(((5, 50), (-9, 30), (0, 50))))
        # What big was at first stays, and big is tied to it still, by way of what it was at the call.
        box = equal_columns(self.box, (1, 3, 0))
        self.check(self.back("g()", called, (True, None), exit_box, box=box),
                   1, (True, None, 0, None, None, False), (),
                   equal_columns(range_box(((5, 50), (-9, 30), (0, 45))), (1, 3, 5)))

    def test_an_exit_row_that_does_not_fit(self):
        called = "def g()\n  t = true\nend\n"
        box = range_box(((0, 9), (-9, 30), (0, 50)))
        for first, wanted in (((9, 20), range_box(((3, 3), (-9, 30), (0, 50)))), ((10, 20), None)):
            found = self.back("g()", called, (True, None), range_box(((3, 3), first)), box=box)
            if wanted is None:
                self.assertIsNone(found)
            else:
                self.assertEqual(found[2], wanted)

    def test_the_fixed_numbers_of_the_caller_are_not_those_of_the_callee(self):
        called = "def g()\n  t = true\nend\n"
        # big was 20 at the caller's first and is 3 now: the callee began with 3.
        box = range_box(((3, 3), (-9, 30), (20, 20)))
        found = self.back("g()", called, (True, None), range_box(((4, 4), (3, 3))), box=box)
        self.assertEqual(found[2], range_box(((4, 4), (-9, 30), (20, 20))))
        self.assertIsNone(self.back("g()", called, (True, None), range_box(((4, 4), (20, 20))), box=box))

    def test_large_result_in_a_local(self):
        called = "def g(): -9..30\n  return 1\nend\n"
        # big, the result and big at first: the result is big plus 1, big has become 0..9.
        exit_box = equal_columns(range_box(((0, 9), (1, 10), (0, 50))), (2, 1, 1))
        self.check(self.back("v = g()", called, (False, None), exit_box), 1, self.key[0], (),
                   equal_columns(range_box(((0, 9), (1, 10), (0, 50))), (2, 1, 1)))
        self.check(self.back("g()", called, (False, None), exit_box), 1, self.key[0], (),
                   range_box(((0, 9), (-9, 30), (0, 50))))

    def test_large_result_in_a_global(self):
        called = "def g(): 0..50\n  return 1\nend\n"
        exit_box = equal_columns(range_box(((0, 9), (1, 10), (0, 50))), (2, 1, 1))
        # big becomes the result, not what the callee left in it.
        self.check(self.back("big = g()", called, (False, None), exit_box), 1, self.key[0], (),
                   range_box(((1, 10), (-9, 30), (0, 50))))

    def test_large_results_beside_other_numbers_of_globals(self):
        for count in (0, 1, 2, 3):
            text = "".join("global g" + str(at) + ": 0..10" + str(at) + "\n" for at in range(count))
            text += "def g(a: 0..1, b: 0..30): 0..40\n  return 1\nend\ndef main()\n  var u: 0..50\n" \
                    "  var v: 0..40\n  var w: 0..60\n  v = g(0, u)\n  v = 1\nend\n"
            program = read_program(text)
            layout, callee = Layout(program, "main"), Layout(program, "g")
            shared, first = ((7, 8),) * count, ((2, 3),) * count
            box = range_box((*shared, (5, 6), (10, 11), (12, 13), *first))
            _, (member,) = enter(layout, callee, 0, ((), ()), box)
            begun = range_box((*shared, (5, 6), *shared, (5, 6)))
            pairs = [(at, at + count + 1, 0) for at in range(1, count + 2)]
            self.assertEqual(member[3], equal_columns(begun, *pairs))
            # Each global has become 20 and more; the result is 30 more than b was.
            became = tuple((20 + at, 20 + at) for at in range(count))
            exit_box = range_box((*became, (30, 40), *((0, 100),) * count, (0, 30)))
            exit_box = equal_columns(exit_box, (count + 1, 2 * count + 2, 30))
            wanted = range_box((*became, (5, 6), (35, 36), (12, 13), *first))
            self.check(back(layout, 0, 0, ((), ()), member, callee, ((), ()), exit_box), 1, (), (),
                       equal_columns(wanted, (count + 2, count + 1, 30)))

    def test_a_result_that_is_tied_to_a_parameter(self):
        called = "def g(a: 0..50): -9..30\n  return 1\nend\n"
        # big, the result, big and a at first: the result is 2 more than a was, big is not changed.
        exit_box = equal_columns(range_box(((0, 50), (2, 30), (0, 50), (0, 28))), (1, 3, 0), (2, 4, 2))
        # v becomes v + 4 + 2, where v + 4 was given; what v was before is known no more.
        box = range_box(((7, 7), (1, 3), (0, 50)))
        self.check(self.back("v = g((v + 4))", called, (False, None), exit_box, box=box), 1, self.key[0], (),
                   range_box(((7, 7), (7, 9), (0, 50))))
        # The argument was big itself, which the result is tied to therefore.
        self.check(self.back("v = g(big)", called, (False, None), exit_box), 1, self.key[0], (),
                   equal_columns(range_box(((0, 28), (2, 30), (0, 50))), (2, 1, 2)))
        self.check(self.back("g(v)", called, (False, None), exit_box), 1, self.key[0], (),
                   range_box(((0, 50), (0, 28), (0, 50))))

    def test_small_results(self):
        called = "def g(): 0..2\n  return 1\nend\n"
        exit_box = equal_columns(range_box(((0, 50), (0, 50))), (1, 2, 0))
        self.check(self.back("s = g()", called, (True, None, 2), exit_box), 1,
                   (True, None, 2, None, None, False), (), self.box)
        self.check(self.back("g()", called, (True, None, 2), exit_box), 1,
                   (True, None, 0, None, None, False), (), self.box)
        called = "def g(): flag\n  return true\nend\n"
        # A global becomes the result, whatever the callee left in it.
        for left in (False, True):
            for result in (False, True):
                self.check(self.back("t = g()", called, (left, None, result), exit_box), 1,
                           (result, None, 0, None, None, False), (), self.box)
                self.check(self.back("m = g()", called, (left, None, result), exit_box), 1,
                           (left, None, 0, None, None, result), (), self.box)

    def test_reference_results(self):
        called = "def g(): leaf\n  return null\nend\n"
        exit_box = equal_columns(range_box(((0, 50), (0, 50))), (1, 2, 0))
        key = self.key_with((full(1), full(2)), last=0, q=1)
        # The entry's records are only that of last; a new one is returned.
        self.check(self.back("q = g()", called, (False, 0, 1), exit_box, key, records=(full(1), full(3))), 1,
                   (False, 0, 0, 1, None, False), (full(1), full(3)), self.box)
        # last refers to the new one, and the result, in last, to the old one.
        self.check(self.back("last = g()", called, (False, 1, 0), exit_box, key, records=(full(1), full(3))), 1,
                   (False, 0, 0, 1, None, False), (full(1), full(2)), self.box)
        self.check(self.back("g()", called, (False, 1, 0), exit_box, key, records=(full(1), full(3))), 1,
                   (False, 0, 0, 1, None, False), (full(3), full(2)), self.box)
        self.check(self.back("q = g()", called, (False, None, None), exit_box, key, records=(GONE,)), 1,
                   (False, None, 0, None, None, False), (), self.box)

    def test_fixed_records_of_the_caller(self):
        called = "def g(): leaf\n  return null\nend\n"
        exit_box = equal_columns(range_box(((0, 50), (0, 50))), (1, 2, 0))
        key = self.key_with((full(1), full(2)), last=0, q=1)
        for fixed, records in ((0, ()), (1, (GONE,)), (2, (GONE, full(2)))):
            self.check(self.back("q = g()", called, (False, None, None), exit_box, key, records=(GONE,), fixed=fixed),
                       1, (False, None, 0, None, None, False), records, self.box)

    def test_records_that_the_callee_changes(self):
        called = "def g(a: tree)\n  t = true\nend\n"
        exit_box = equal_columns(range_box(((0, 50), (0, 50))), (1, 2, 0))
        # In the caller: the leaf of last, that of q, the tree and its other leaf.
        key = self.key_with((full(2), full(1), ("tree", True, (1, 3)), full(3)), last=0, q=1, h=2)
        # In the callee: the leaf of last, the tree and its two leaves.
        begun = (full(2), ("tree", True, (2, 3)), full(1), full(3))
        layout, callee = self.world("g(h)", called)
        _, (member,) = enter(layout, callee, 0, key, self.box)
        self.assertEqual((member[0], member[5]), (((False, 0, 1), begun), (0, 2, 1, 3)))
        # It gives back the leaf of q, changes that of last, and puts new leaves into the tree and last.
        ended = ((True, 4), (full(0), ("tree", True, (2, 5)), GONE, full(3), full(1), full(2)))
        found = back(layout, 0, 0, key, member, callee, ended, exit_box)
        self.check(found, 1, (True, 0, 0, 1, 2, False),
                   (full(1), GONE, ("tree", True, (1, 3)), full(2)), self.box)
        found = back(layout, 4, 0, key, member, callee, ended, exit_box)
        self.check(found, 1, (True, 5, 0, 1, 2, False),
                   (full(0), GONE, ("tree", True, (1, 4)), full(3), full(2), full(1)), self.box)

    def test_records_that_the_callee_does_not_see(self):
        called = "def g(a: leaf)\n  t = true\nend\n"
        exit_box = equal_columns(range_box(((0, 50), (0, 50))), (1, 2, 0))
        key = self.key_with((full(1), ("tree", True, (0, None))), q=0, h=1)
        # Without an argument no record of the caller is among those of the callee.
        self.check(self.back("g(null)", called, (False, 0), exit_box, key, records=(full(3),)), 1,
                   (False, 0, 0, 1, 2, False), (full(3), full(1), ("tree", True, (1, None))), self.box)
        # With q its leaf is the same one in the tree.
        self.check(self.back("g(q)", called, (False, None), exit_box, key, records=(GONE,)), 1,
                   (False, None, 0, 0, 1, False), (GONE, ("tree", True, (0, None))), self.box)
        self.check(self.back("g(q)", called, (False, 0), exit_box, key, records=(full(2),)), 1,
                   (False, 0, 0, 0, 1, False), (full(2), ("tree", True, (0, None))), self.box)

    def test_members(self):
        called = "def g(a: 0..2)\n  t = true\nend\n"
        exit_box = equal_columns(range_box(((0, 50), (0, 50))), (1, 2, 0))
        for at in range(3):
            # The box is the one that the argument left.
            self.check(self.back("g(v)", called, (False, None), exit_box, at=at), 1, self.key[0], (),
                       range_box(((0, 50), (at, at), (0, 50))))

    def test_a_call_at_the_end(self):
        called = "def g()\n  t = true\nend\n"
        exit_box = equal_columns(range_box(((5, 50), (0, 45))), (1, 2, 5))
        self.check(self.back("g()", called, (True, None), exit_box, more=""), 1, (True, None), (),
                   range_box(((5, 50), (0, 50))))
        key = self.key_with((full(2), full(1)), last=0, q=1)
        self.check(self.back("g()", called, (True, 0), exit_box, key, records=(full(3),), fixed=2, more=""), 1,
                   (True, 0), (full(3), full(1)), range_box(((5, 50), (0, 50))))

    def test_a_call_in_a_while(self):
        called = "def g()\n  t = true\nend\n"
        layout, callee = self.world("while t\n    g()\n  end", called)
        _, (member,) = enter(layout, callee, 1, self.key, self.box)
        exit_box = equal_columns(range_box(((0, 50), (0, 50))), (1, 2, 0))
        self.check(back(layout, 0, 1, self.key, member, callee, ((True, None), ()), exit_box),
                   0, (True, None, 0, None, None, False), (), self.box)

    def test_recursion(self):
        program = read_program("global big: 0..50\ndef g(a: 0..90): 0..70\n  var b: 0..70\n  b = g(a)\n"
                               "  return b\nend\ndef main()\nend\n")
        layout = Layout(program, "g")
        box = range_box(((0, 50), (10, 20), (3, 3), (7, 8), (11, 12)))
        _, (member,) = enter(layout, layout, 0, ((), ()), box)
        # big, the result, and big and a at first: the result is a plus 1, big has become 2.
        exit_box = equal_columns(range_box(((2, 2), (1, 70), (0, 50), (0, 69))), (2, 4, 1))
        found = back(layout, 0, 0, ((), ()), member, layout, ((), ()), exit_box)
        self.check(found, 1, (), (),
                   equal_columns(range_box(((2, 2), (10, 20), (11, 21), (7, 8), (11, 12))), (3, 2, 1)))


if __name__ == "__main__":
    unittest.main()
