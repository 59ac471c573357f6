"""Points 48 to 52."""

import unittest

from neverhappens.boxes import free_column
from neverhappens.layouts import Layout
from neverhappens.reading import read_program
from neverhappens.steps import arrive, step
from neverhappens.zones import bound, close, range_box

WORLD = """\
record leaf
  n: 0..3
  f: flag
end
record tree
  left: leaf
  right: leaf
end
array row[5]: 0..9
array few[2]: -1..1
global t: flag
global s: -1..2
global big: 0..50
global last: leaf
"""

# The columns of a function with the parameter p: 0..20 and the local v: -9..9.
COLUMNS = ("big", "p", "v", "big at first", "p at first")
FULL = range_box(((0, 50), (0, 20), (-9, 9), (0, 50), (0, 20)))
LEAF = ("leaf", True, (0, False))
GONE = ("leaf", False, ())


class StepCase(unittest.TestCase):
    """Steps of a function f with a parameter and locals of all kinds, and lines that are told."""

    # The discrete names are t, s, last, q, r, h, w, m.
    start = ((False, 0, None, None, 0, None, None, False), ())

    def layout(self, lines, result=""):
        body = "".join("  " + line + "\n" for line in lines)
        self.program = read_program(
            WORLD + "def f(p: 0..20, q: leaf, r: 0..1)" + result + "\n  var v: -9..9\n  var h: tree\n"
            "  var w: leaf\n  var m: flag\n" + body + "end\ndef main()\nend\n"
        )
        return Layout(self.program, "f")

    def values(self, **changed):
        names = ("t", "s", "last", "q", "r", "h", "w", "m")
        values = dict(zip(names, self.start[0]))
        self.assertLessEqual(set(changed), set(names))
        return tuple({**values, **changed}.values())

    def step(self, line, key=None, box=FULL, fixed=0, place=0, result="", more=("t = true",)):
        layout = self.layout([*line.split("\n"), *more], result)
        return step(layout, fixed, place, key or self.start, box)

    def check(self, found, faults, *nexts):
        self.assertEqual(repr(found), repr((tuple(faults), tuple(nexts))))

    def same_key(self, *boxes):
        """The triples for the next place with the start key."""
        return tuple((1, self.start, box) for box in boxes)

    def cut(self, *ranges):
        """The full box with other ranges of the first columns."""
        return range_box((*ranges, *((0, 50), (0, 20), (-9, 9), (0, 50), (0, 20))[len(ranges):]))


class TestSet(StepCase):
    def test_flag(self):
        true, false = (self.values(t=True), ()), (self.values(t=False), ())
        self.check(self.step("t = true"), [], (1, true, FULL))
        self.check(self.step("t = false"), [], (1, false, FULL))
        # False comes first.
        self.check(self.step("t = (big < 9)"), [], (1, false, self.cut((9, 50))), (1, true, self.cut((0, 8))))
        self.check(self.step("t = (big < 51)"), [], (1, true, FULL))
        self.check(self.step("m = (not m)"), [], (1, (self.values(m=True), ()), FULL))

    def test_reference(self):
        records = (LEAF, ("leaf", True, (2, True)))
        key = (self.values(q=0, w=1), records)
        self.check(self.step("last = w", key), [],
                   (1, (self.values(last=0, q=1, w=0), records[::-1]), FULL))
        self.check(self.step("w = null", key), [], (1, (self.values(q=0), (LEAF,)), FULL))
        self.check(self.step("q = w", key), [], (1, (self.values(q=0, w=0), (records[1],)), FULL))
        self.check(self.step("q = last", key), [], (1, (self.values(w=0), (records[1],)), FULL))
        # Records that are fixed are kept.
        self.check(self.step("q = w", key, fixed=1), [], (1, (self.values(q=1, w=1), records), FULL))

    def test_small_number(self):
        def row(value, box):
            return (1, (self.values(s=value), ()), box)

        self.check(self.step("s = 1"), [], row(1, FULL))
        self.check(self.step("s = 3"), ["range"])
        self.check(self.step("s = -2"), ["range"])
        self.check(self.step("s = (s + r)", (self.values(s=1, r=1), ())), [],
                   (1, (self.values(s=2, r=1), ()), FULL))
        boxes = [self.cut((value, value)) for value in range(3)]
        self.check(self.step("s = big"), ["range"], *map(row, range(3), boxes))
        self.check(self.step("s = big", box=self.cut((0, 2))), [], *map(row, range(3), boxes))
        self.check(self.step("s = (big - 1)"), ["range"],
                   *[row(value, self.cut((value + 1, value + 1))) for value in (-1, 0, 1, 2)])
        self.check(self.step("s = (2 * big)"), ["range"], row(0, self.cut((0, 0))), row(2, self.cut((1, 1))))
        # A product of two columns may be any number of its range.
        self.check(self.step("s = (big * big)", box=self.cut((0, 1))), [],
                   row(0, self.cut((0, 1))), row(1, self.cut((0, 1))))
        self.check(self.step("s = big", box=self.cut((3, 50))), ["range"])
        self.check(self.step("s = (big - 9)", box=self.cut((0, 7))), ["range"])

    def test_large_number(self):
        self.check(self.step("v = 5"), [], *self.same_key(self.cut((0, 50), (0, 20), (5, 5))))
        self.check(self.step("v = 10"), ["range"])
        self.check(self.step("v = -10"), ["range"])
        self.check(self.step("v = (v + 1)"), ["range"], *self.same_key(self.cut((0, 50), (0, 20), (-8, 9))))
        self.check(self.step("v = (v + 1)", box=self.cut((0, 50), (0, 20), (-9, 8))), [],
                   *self.same_key(self.cut((0, 50), (0, 20), (-8, 9))))
        tied = bound(bound(self.cut((0, 9), (0, 9)), 1, 2, 0), 2, 1, 0)
        self.check(self.step("big = p", box=self.cut((0, 50), (0, 9))), [], *self.same_key(tied))
        self.check(self.step("v = p"), ["range"],
                   *self.same_key(bound(bound(self.cut((0, 50), (0, 9), (0, 9)), 2, 3, 0), 3, 2, 0)))
        self.check(self.step("v = (p * v)"), ["range"], *self.same_key(FULL))
        self.check(self.step("v = (s + r)"), [], *self.same_key(self.cut((0, 50), (0, 20), (0, 0))))

    def test_a_parameter_and_what_it_was_at_first(self):
        box = bound(bound(FULL, 2, 5, 0), 5, 2, 0)
        wanted = bound(bound(self.cut((0, 50), (3, 20)), 2, 5, 3), 5, 2, -3)
        self.check(self.step("p = (p + 3)", box=box), ["range"], *self.same_key(wanted))


class TestTargets(StepCase):
    """Each kind of target, as a global, a parameter, a local and a field."""

    program = read_program("""\
record leaf
end
record all
  f: flag
  n: 1..3
  r: leaf
end
global gf: flag
global gn: 1..3
global gr: leaf
global gl: 0..30
def f(pf: flag, pn: 1..3, pr: leaf, pl: 0..30, x: leaf, y: 0..30, z: flag)
  var vf: flag
  var vn: 1..3
  var vr: leaf
  var vl: 0..30
  var a: all
  gf = z
  gf = (y < 2)
  gn = y
  gr = x
  gl = (y + 1)
  gf = input
  gn = input
  gl = input
  pf = z
  pf = (y < 2)
  pn = y
  pr = x
  pl = (y + 1)
  pf = input
  pn = input
  pl = input
  vf = z
  vf = (y < 2)
  vn = y
  vr = x
  vl = (y + 1)
  vf = input
  vn = input
  vl = input
  a.f = z
  a.f = (y < 2)
  a.n = y
  a.r = x
  z = z
end
def main()
end
""")
    names = ("gf", "gn", "gr", "pf", "pn", "pr", "x", "z", "vf", "vn", "vr", "a")
    columns = ("gl", "pl", "y", "vl", "gl at first", "pl at first", "y at first")
    records = (("leaf", True, ()), ("all", True, (False, 1, None)))
    start = ((False, 1, None, False, 1, None, 0, True, False, 1, None, 1), records)

    def triple(self, place, values=(), ranges=(), record=None):
        """The triple behind a place: with these values, ranges and fields of the second record."""
        changed = {**dict(zip(self.names, self.start[0])), **dict(values)}
        limits = {**dict.fromkeys(self.columns, (0, 30)), **dict(ranges)}
        records = self.records if record is None else (self.records[0], ("all", True, record))
        key = (tuple(changed[name] for name in self.names), records)
        return (place + 1, key, range_box(tuple(limits[name] for name in self.columns)))

    def check_place(self, place, faults, *triples):
        found = step(Layout(self.program, "f"), 0, place, self.start, range_box(((0, 30),) * 7))
        self.check(found, faults, *triples)

    def test_variables(self):
        for first, letter in ((0, "g"), (8, "p"), (16, "v")):
            flag, number, reference, large = [letter + kind for kind in "fnrl"]
            at = first
            self.check_place(at, [], self.triple(at, {flag: True}))
            at = first + 1
            self.check_place(at, [], self.triple(at, {}, {"y": (2, 30)}),
                             self.triple(at, {flag: True}, {"y": (0, 1)}))
            at = first + 2
            self.check_place(at, ["range"], *[
                self.triple(at, {number: value}, {"y": (value, value)}) for value in (1, 2, 3)])
            at = first + 3
            self.check_place(at, [], self.triple(at, {reference: 0}))
            at = first + 4
            column = self.columns.index(large) + 1
            _, key, box = self.triple(at, {}, {large: (1, 30), "y": (0, 29)})
            tied = bound(bound(box, column, 3, 1), 3, column, -1)
            self.check_place(at, ["range"], (at + 1, key, tied))
            at = first + 5
            self.check_place(at, [], self.triple(at), self.triple(at, {flag: True}))
            at = first + 6
            self.check_place(at, [], *[self.triple(at, {number: value}) for value in (1, 2, 3)])
            at = first + 7
            self.check_place(at, [], self.triple(at))

    def test_fields(self):
        self.check_place(24, [], self.triple(24, record=(True, 1, None)))
        self.check_place(25, [], self.triple(25, {}, {"y": (2, 30)}),
                         self.triple(25, {}, {"y": (0, 1)}, (True, 1, None)))
        self.check_place(26, ["range"], *[
            self.triple(26, {}, {"y": (value, value)}, (False, value, None)) for value in (1, 2, 3)])
        self.check_place(27, [], self.triple(27, record=(False, 1, 0)))


class TestInput(StepCase):
    def test_flag(self):
        self.check(self.step("t = input"), [],
                   (1, (self.values(t=False), ()), FULL), (1, (self.values(t=True), ()), FULL))

    def test_small_number(self):
        self.check(self.step("s = input"), [],
                   *[(1, (self.values(s=value), ()), FULL) for value in (-1, 0, 1, 2)])
        self.check(self.step("r = input"), [],
                   *[(1, (self.values(r=value), ()), FULL) for value in (0, 1)])

    def test_large_number(self):
        box = close(((0, 0, 0, 9, 0, 0), (50, 0, 2, 9, 9, 9), (20, 1, 0, 9, 9, 9), (9,) * 6,
                     (50, 9, 9, 9, 0, 0), (20, 9, 9, 9, 0, 0)))
        self.check(self.step("big = input", box=box), [], *self.same_key(free_column(box, 1, 0, 50)))
        self.check(self.step("v = input", box=box), [], *self.same_key(free_column(box, 3, -9, 9)))
        self.check(self.step("p = input", box=box), [], *self.same_key(free_column(box, 2, 0, 20)))


class TestRecords(StepCase):
    def test_new(self):
        self.check(self.step("w = new"), [], (1, (self.values(w=0), (LEAF,)), FULL))
        key = (self.values(q=0), (GONE,))
        self.check(self.step("w = new", key), [], (1, (self.values(q=0, w=1), (GONE, LEAF)), FULL))
        # The new record comes first, and the old one is not seen any more if it is not fixed.
        self.check(self.step("last = new", key), [], (1, (self.values(last=0, q=1), (LEAF, GONE)), FULL))
        self.check(self.step("q = new", key), [], (1, (self.values(q=0), (LEAF,)), FULL))
        self.check(self.step("q = new", key, fixed=1), [], (1, (self.values(q=1), (GONE, LEAF)), FULL))
        self.check(self.step("h = new"), [], (1, (self.values(h=0), (("tree", True, (None, None)),)), FULL))

    def test_free(self):
        key = (self.values(q=0, w=0), (("leaf", True, (3, True)),))
        self.check(self.step("free q"), ["null"])
        self.check(self.step("free q", key), [], (1, (self.values(q=0, w=0), (GONE,)), FULL))
        self.check(self.step("free w", (self.values(q=0, w=0), (GONE,))), ["gone"])
        # What a gone record referred to is not seen any more.
        key = (self.values(h=0), (("tree", True, (1, None)), LEAF))
        self.check(self.step("free h", key), [], (1, (self.values(h=0), (("tree", False, ()),)), FULL))
        key = (self.values(h=0), (("tree", True, (1, None)), LEAF))
        self.check(self.step("free h", key, fixed=2), [],
                   (1, (self.values(h=0), (("tree", False, ()), LEAF)), FULL))

    def test_free_one_of_two(self):
        key = (self.values(q=0, w=1), (LEAF, LEAF))
        self.check(self.step("free q", key), [], (1, (self.values(q=0, w=1), (GONE, LEAF)), FULL))
        self.check(self.step("free w", key), [], (1, (self.values(q=0, w=1), (LEAF, GONE)), FULL))

    def test_records_without_fields(self):
        program = read_program("record none\nend\ndef main()\n  var a: none\n  free a\n  a = new\nend\n")
        layout = Layout(program, "main")
        live, gone = ("none", True, ()), ("none", False, ())
        self.check(step(layout, 0, 0, ((0,), (live,)), ((0,),)), [], (1, ((0,), (gone,)), ((0,),)))
        self.check(step(layout, 0, 0, ((0,), (gone,)), ((0,),)), ["gone"])

    def test_load(self):
        key = (self.values(q=0), (("leaf", True, (3, True)),))
        self.check(self.step("m = q.f"), ["null"])
        self.check(self.step("m = q.f", (self.values(q=0), (GONE,))), ["gone"])
        self.check(self.step("m = q.f", key), [], (1, (self.values(q=0, m=True), key[1]), FULL))
        key = (self.values(h=0), (("tree", True, (None, 1)), ("leaf", True, (3, True))))
        self.check(self.step("w = h.right", key), [], (1, (self.values(h=0, w=1), key[1]), FULL))
        self.check(self.step("w = h.left", key), [], (1, (self.values(h=0), key[1]), FULL))
        self.check(self.step("last = h.right", key), [], (1, (
            self.values(last=0, h=1), (key[1][1], ("tree", True, (None, 0)))), FULL))

    def test_load_of_a_number(self):
        program = read_program(
            "record leaf\n  f: flag\n  n: 0..3\nend\ndef main()\n  var l: leaf\n  var n: 0..3\n"
            "  n = l.n\n  n = 0\nend\n")
        found = step(Layout(program, "main"), 0, 0, ((0, 0), (("leaf", True, (True, 2)),)), ((0,),))
        self.check(found, [], (1, ((0, 2), (("leaf", True, (True, 2)),)), ((0,),)))

    def test_store(self):
        key = (self.values(q=0), (LEAF,))

        def row(n, f, box=FULL):
            return (1, (self.values(q=0), (("leaf", True, (n, f)),)), box)

        self.check(self.step("q.n = 5"), ["null"])
        self.check(self.step("q.n = 5", (self.values(q=0), (GONE,))), ["gone"])
        self.check(self.step("q.n = 2", key), [], row(2, False))
        self.check(self.step("q.n = 4", key), ["range"])
        self.check(self.step("q.n = -1", key), ["range"])
        self.check(self.step("q.n = v", key), ["range"],
                   *[row(value, False, self.cut((0, 50), (0, 20), (value, value))) for value in range(4)])
        self.check(self.step("q.f = true", key), [], row(0, True))
        self.check(self.step("q.f = (big < p)", key), [],
                   row(0, False, bound(FULL, 2, 1, 0)), row(0, True, bound(FULL, 1, 2, -1)))

    def test_store_of_references(self):
        key = (self.values(q=0, h=1, w=2), (LEAF, ("tree", True, (0, 2)), ("leaf", True, (1, True))))
        self.check(self.step("h.left = w", key), [], (1, (
            self.values(q=0, h=1, w=2), (LEAF, ("tree", True, (2, 2)), key[1][2])), FULL))
        self.check(self.step("h.right = null", key), [], (1, (
            self.values(q=0, h=1, w=2), (LEAF, ("tree", True, (0, None)), key[1][2])), FULL))
        self.check(self.step("h.right = q", key), [], (1, (
            self.values(q=0, h=1, w=2), (LEAF, ("tree", True, (0, 0)), key[1][2])), FULL))


class TestArrays(StepCase):
    def test_get(self):
        program = read_program(WORLD + """\
def main()
  var a: 0..9
  var b: -1..1
  var i: -5..50
  a = row[i]
  b = few[i]
  a = row[4]
  a = row[5]
  b = few[-1]
  i = 0
end
""")
        layout = Layout(program, "main")
        key = ((False, 0, None, 0), ())

        def boxed(big, a, i):
            return range_box((big, a, i, (0, 50)))

        free = (0, 50)
        full = boxed(free, (3, 4), (-5, 50))
        in_row, in_few = boxed(free, (0, 9), (0, 4)), boxed(free, (3, 4), (0, 1))
        self.check(step(layout, 0, 0, key, full), ["index"], (1, key, in_row))
        self.check(step(layout, 0, 0, key, boxed(free, (3, 4), (0, 4))), [], (1, key, in_row))
        self.check(step(layout, 0, 0, key, boxed(free, (3, 4), (-1, 4))), ["index"], (1, key, in_row))
        self.check(step(layout, 0, 0, key, boxed(free, (3, 4), (0, 5))), ["index"], (1, key, in_row))
        self.check(step(layout, 0, 0, key, boxed(free, (3, 4), (-5, -1))), ["index"])
        self.check(step(layout, 0, 0, key, boxed(free, (3, 4), (5, 9))), ["index"])
        self.check(step(layout, 0, 1, key, full), ["index"],
                   *[(2, ((False, 0, None, value), ()), in_few) for value in (-1, 0, 1)])
        self.check(step(layout, 0, 1, key, boxed(free, (3, 4), (2, 4))), ["index"])
        self.check(step(layout, 0, 2, key, full), [], (3, key, boxed(free, (0, 9), (-5, 50))))
        self.check(step(layout, 0, 3, key, full), ["index"])
        self.check(step(layout, 0, 4, key, full), ["index"])

    def test_put(self):
        full = FULL
        self.check(self.step("row[0] = 0"), [], *self.same_key(full))
        self.check(self.step("row[4] = 9"), [], *self.same_key(full))
        self.check(self.step("row[5] = 0"), ["index"])
        self.check(self.step("row[-1] = 0"), ["index"])
        self.check(self.step("row[4] = 10"), ["range"])
        self.check(self.step("row[4] = -1"), ["range"])
        # The index is looked at first: without one there is no value.
        self.check(self.step("row[5] = 10"), ["index"])
        self.check(self.step("row[p] = 3"), ["index"], *self.same_key(self.cut((0, 50), (0, 4))))
        self.check(self.step("row[p] = 10"), ["index", "range"])
        self.check(self.step("row[p] = v"), ["index", "range"],
                   *self.same_key(self.cut((0, 50), (0, 4), (0, 9))))
        self.check(self.step("row[p] = p"), ["index"], *self.same_key(self.cut((0, 50), (0, 4))))
        self.check(self.step("few[p] = v"), ["index", "range"],
                   *self.same_key(self.cut((0, 50), (0, 1), (-1, 1))))
        self.check(self.step("few[r] = v"), ["range"], *self.same_key(self.cut((0, 50), (0, 20), (-1, 1))))
        self.check(self.step("few[(r + 2)] = v"), ["index"])

    def test_put_with_the_value_on_the_box_of_the_index(self):
        # p * p is at most 400, but at most 16 where p is an index, and at most 1 for the second one.
        self.check(self.step("row[p] = (p * p)"), ["index", "range"],
                   *self.same_key(self.cut((0, 50), (0, 4))))
        self.check(self.step("few[p] = (p * p)"), ["index"], *self.same_key(self.cut((0, 50), (0, 1))))


class TestControl(StepCase):
    def test_if(self):
        lines = "if (big < 9)\n  t = true\nelse\n  s = 1\nend"
        self.check(self.step(lines), [],
                   (1, self.start, self.cut((0, 8))), (2, self.start, self.cut((9, 50))))
        self.check(self.step(lines, box=self.cut((0, 8))), [], (1, self.start, self.cut((0, 8))))
        self.check(self.step(lines, box=self.cut((9, 9))), [], (2, self.start, self.cut((9, 9))))

    def test_triples_that_are_equal(self):
        # Both ways lead to the same place with the same box; neither is left out.
        self.check(self.step("if ((v * v) < 9)\nend"), [], *self.same_key(FULL, FULL))

    def test_while(self):
        lines = "while (v < p)\n  v = 3\nend"
        self.check(self.step(lines), [],
                   (1, self.start, bound(FULL, 3, 2, -1)), (2, self.start, bound(FULL, 2, 3, 0)))
        self.check(self.step("while m\n  v = 3\nend"), [], (2, self.start, FULL))
        self.check(self.step("while (not m)\nend"), [], (0, self.start, FULL))

    def test_break(self):
        self.check(self.step("while m\n  break\n  t = true\nend", place=1), [], (3, self.start, FULL))

    def test_assert(self):
        self.check(self.step("assert (not m)"), [], *self.same_key(FULL))
        self.check(self.step("assert m"), ["assert"])
        self.check(self.step("assert (v < 3)"), ["assert"], *self.same_key(self.cut((0, 50), (0, 20), (-9, 2))))
        self.check(self.step("assert (v < 3)", box=self.cut((0, 50), (0, 20), (-9, 2))), [],
                   *self.same_key(self.cut((0, 50), (0, 20), (-9, 2))))
        self.check(self.step("assert (v < 3)", box=self.cut((0, 50), (0, 20), (3, 3))), ["assert"])


class TestExit(StepCase):
    # At the exit there are big, the result if it is large, and the first values of big and p.
    ended = range_box(((0, 50), (0, 50), (0, 20)))

    def with_result(self, low, high):
        return range_box(((0, 50), (low, high), (0, 50), (0, 20)))

    def test_last_statement(self):
        key = (self.values(t=True, s=1, m=True), ())
        self.check(self.step("t = t", key, more=()), [], (1, ((True, 1, None), ()), self.ended))
        self.check(self.step("t = t", key, more=(), result=": flag"), [],
                   (1, ((True, 1, None, False), ()), self.ended))
        self.check(self.step("t = t", key, more=(), result=": 2..5"), [],
                   (1, ((True, 1, None, 2), ()), self.ended))
        self.check(self.step("t = t", key, more=(), result=": leaf"), [],
                   (1, ((True, 1, None, None), ()), self.ended))
        self.check(self.step("t = t", key, more=(), result=": -20..-5"), [],
                   (1, ((True, 1, None), ()), self.with_result(-5, -5)))

    def test_columns(self):
        # big is 3 less than at first, and p 1 greater than at first.
        box = bound(bound(FULL, 1, 4, -3), 4, 1, 3)
        box = bound(bound(box, 2, 5, 1), 5, 2, -1)
        wanted = bound(bound(range_box(((0, 47), (3, 50), (0, 19))), 1, 2, -3), 2, 1, 3)
        self.check(self.step("t = false", box=box, more=()), [], (1, ((False, 0, None), ()), wanted))
        self.check(self.step("return", box=box), [], (2, ((False, 0, None), ()), wanted))

    def test_statements_with_several_triples(self):
        self.check(self.step("s = input", more=()), [],
                   *[(1, ((False, value, None), ()), self.ended) for value in (-1, 0, 1, 2)])
        self.check(self.step("m = input", more=()), [], *[(1, ((False, 0, None), ()), self.ended)] * 2)
        self.check(self.step("if (big < 9)\nend", more=()), [],
                   (1, ((False, 0, None), ()), range_box(((0, 8), (0, 50), (0, 20)))),
                   (1, ((False, 0, None), ()), range_box(((9, 50), (0, 50), (0, 20)))))
        self.check(self.step("while m\n  break\nend", place=1, more=()), [],
                   (2, ((False, 0, None), ()), self.ended))

    def test_records_at_the_end(self):
        key = (self.values(last=0, q=1, w=2), (LEAF, GONE, ("leaf", True, (2, True))))
        self.check(self.step("t = t", key, more=()), [], (1, ((False, 0, 0), (LEAF,)), self.ended))
        # The fixed ones are kept, also if nobody refers to them any more.
        key = (self.values(last=2, q=0, w=1), (LEAF, GONE, ("leaf", True, (2, True))))
        self.check(self.step("t = t", key, fixed=2, more=()), [], (1, ((False, 0, 2), key[1]), self.ended))
        self.check(self.step("t = t", (self.values(q=0, w=2), key[1]), fixed=2, more=()), [],
                   (1, ((False, 0, None), key[1][:2]), self.ended))
        self.check(self.step("t = t", key, fixed=2, more=(), result=": leaf"), [],
                   (1, ((False, 0, 2, None), key[1]), self.ended))

    def test_return(self):
        self.check(self.step("return"), [], (2, ((False, 0, None), ()), self.ended))
        self.check(self.step("return (big < 9)", result=": flag"), [],
                   (2, ((False, 0, None, False), ()), range_box(((9, 50), (0, 50), (0, 20)))),
                   (2, ((False, 0, None, True), ()), range_box(((0, 8), (0, 50), (0, 20)))))
        self.check(self.step("return true", result=": flag"), [], (2, ((False, 0, None, True), ()), self.ended))

    def test_return_of_a_reference(self):
        key = (self.values(q=0, w=1), (LEAF, GONE))
        self.check(self.step("return w", key, result=": leaf"), [], (2, ((False, 0, None, 0), (GONE,)), self.ended))
        self.check(self.step("return w", key, fixed=1, result=": leaf"), [],
                   (2, ((False, 0, None, 1), (LEAF, GONE)), self.ended))
        self.check(self.step("return null", key, result=": leaf"), [], (2, ((False, 0, None, None), ()), self.ended))

    def test_return_of_a_small_number(self):
        def row(value, box):
            return (2, ((False, 0, None, value), ()), box)

        self.check(self.step("return 2", result=": 2..5"), [], row(2, self.ended))
        self.check(self.step("return 6", result=": 2..5"), ["range"])
        self.check(self.step("return 1", result=": 2..5"), ["range"])
        self.check(self.step("return big", result=": 2..5"), ["range"],
                   *[row(value, range_box(((value, value), (0, 50), (0, 20)))) for value in (2, 3, 4, 5)])
        self.check(self.step("return p", box=self.cut((7, 7), (3, 4)), result=": 2..5"), [],
                   *[row(value, range_box(((7, 7), (0, 50), (0, 20)))) for value in (3, 4)])

    def test_return_of_a_large_number(self):
        def row(box):
            return (2, ((False, 0, None), ()), box)

        self.check(self.step("return 7", result=": 2..15"), [], row(self.with_result(7, 7)))
        self.check(self.step("return 1", result=": 2..15"), ["range"])
        self.check(self.step("return 16", result=": 2..15"), ["range"])
        self.check(self.step("return v", result=": 2..15"), ["range"], row(self.with_result(2, 9)))
        wanted = bound(bound(range_box(((1, 14), (2, 15), (0, 50), (0, 20))), 1, 2, -1), 2, 1, 1)
        self.check(self.step("return (big + 1)", result=": 2..15"), ["range"], row(wanted))
        # The result is also tied to what p was at first, if p still is.
        box = bound(bound(FULL, 2, 5, 0), 5, 2, 0)
        wanted = bound(bound(range_box(((0, 50), (2, 15), (0, 50), (2, 15))), 2, 4, 0), 4, 2, 0)
        self.check(self.step("return p", box=box, result=": 2..15"), ["range"], row(wanted))
        self.check(self.step("return (v * v)", result=": 2..15"), ["range"], row(self.with_result(2, 15)))


class TestArrive(StepCase):
    def test_places_of_statements(self):
        layout = self.layout(["t = true", "s = 1"])
        key = (self.values(q=0), (LEAF,))
        for place in (0, 1):
            self.assertEqual(repr(arrive(layout, 0, place, key, FULL)), repr((place, key, FULL)))

    def test_exit(self):
        key = (self.values(last=2, q=0, w=1), (LEAF, GONE, ("leaf", True, (2, True))))
        ended = range_box(((0, 50), (0, 50), (0, 20)))
        layout = self.layout(["t = true", "s = 1"], ": 3..4")
        self.assertEqual(repr(arrive(layout, 1, 2, key, FULL)),
                         repr((2, ((False, 0, 1, 3), (LEAF, key[1][2])), ended)))
        layout = self.layout([], ": 3..40")
        self.assertEqual(repr(arrive(layout, 3, 0, key, FULL)), repr((
            0, ((False, 0, 2), key[1]), range_box(((0, 50), (3, 3), (0, 50), (0, 20))))))
        layout = self.layout([])
        self.assertEqual(repr(arrive(layout, 0, 0, key, FULL)),
                         repr((0, ((False, 0, 0), (key[1][2],)), ended)))

    def test_without_names(self):
        layout = Layout(read_program("def main()\nend\n"), "main")
        self.assertEqual(arrive(layout, 0, 0, ((), ()), ((0,),)), (0, ((), ()), ((0,),)))


if __name__ == "__main__":
    unittest.main()
