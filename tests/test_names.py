"""Points 15 (names of programs that are passed), 19 and 20."""

import unittest

from neverhappens.errors import BadKind, NeverError, Twice, Unknown, WrongKind
from neverhappens.names import check_program
from neverhappens.printing import program_text
from neverhappens.reading import read_program
from tests.making import FreeMaker, RightMaker
from tests.samples import DOOR, EMPTY

MAIN = "def main()\nend\n"

# Everything that the statements of the tests below can use; their place is 1.
WORLD = """\
record door
  open: flag
  many: 0..3
end
record house
  front: door
  count: 0..7
end
array row[4]: 0..9
array col[2]: -1..1
global flagone: flag
global one: 0..9
global two: 0..9
global wide: -100..100
global d: door
global e: door
global h: house
def quiet()
end
def number(a: 0..5, b: flag): 0..9
  return 0
end
def truth(): flag
  return true
end
def make(from: door): door
  return from
end
"""


def program_with(line, head="def main()"):
    """The text of the world and a function whose second statement is the line."""
    lines = ["  one = 1", *["  " + part for part in line.split("\n")]]
    end = MAIN if head != "def main()" else ""
    return WORLD + head + "\n" + "\n".join(lines) + "\nend\n" + end


class NamesCase(unittest.TestCase):
    def accepted(self, text):
        self.assertIsNone(check_program(read_program(text)), text)

    def refused(self, text, error, *arguments):
        with self.assertRaises(NeverError) as caught:
            check_program(read_program(text))
        self.assertIs(type(caught.exception), error, text)
        self.assertEqual(tuple(vars(caught.exception).values()), arguments, text)


class TestAccepted(NamesCase):
    def test_program_of_the_document(self):
        self.assertIsNone(check_program(DOOR))

    def test_smallest_program(self):
        self.accepted(MAIN)

    def test_main_anywhere(self):
        self.accepted("def a()\nend\n" + MAIN + "def b(x: flag): flag\nend\n")

    def test_odd_names(self):
        self.accepted("record num\nend\narray ref[1]: 0..0\nglobal index: flag\n" + MAIN)
        self.accepted("global a: flag\ndef f(b: flag)\n  var c: flag\nend\n"
                      "def g(b: flag)\n  var c: 0..1\nend\n" + MAIN)

    def test_fields_may_have_other_names(self):
        self.accepted("record r\n  r: flag\n  x: flag\n  main: flag\n  p: flag\nend\n"
                      "record q\n  r: r\n  x: flag\nend\nglobal x: flag\n"
                      "def f(p: r)\n  x = p.r\n  p.main = x\nend\n" + MAIN)

    def test_one_value_and_eight_values(self):
        self.accepted("record r\n  a: 5..5\n  b: -3..4\nend\n"
                      "array a[1]: 7..7\nglobal x: 9..9\n" + MAIN)

    def test_references_outside_of_records_may_go_anywhere(self):
        self.accepted("record r\nend\nrecord q\nend\nglobal x: q\n"
                      "def f(a: r, b: q): r\n  var c: q\nend\n" + MAIN)

    def test_calls_in_circles(self):
        self.accepted("def f()\n  g()\nend\ndef g()\n  f()\n  main()\nend\ndef main()\n  main()\nend\n")

    def test_programs_by_chance(self):
        for seed in range(200):
            program = RightMaker(seed).program()
            self.assertIsNone(check_program(program), program_text(program))

    def test_statements_behind_an_end(self):
        self.accepted("def main()\n  return\n  return\n  while true\n    break\n    break\n  end\nend\n")


class TestRule1(NamesCase):
    def test_each_pair_of_sections(self):
        parts = ["record x\nend\n", "array x[1]: 0..1\n", "global x: flag\n", "def x()\nend\n"]
        for at, part in enumerate(parts):
            self.refused(part + part + ("" if at == 3 else MAIN), Twice, "x")
            for later in parts[at + 1:]:
                self.refused(part + later, Twice, "x")

    def test_main_twice(self):
        self.refused(MAIN + MAIN, Twice, "main")
        self.refused("global main: flag\n" + MAIN, Twice, "main")

    def test_first_repeated_name(self):
        self.refused("global a: flag\nglobal b: flag\nglobal c: flag\nglobal b: flag\n"
                     "global a: flag\n" + MAIN, Twice, "b")
        self.refused("record a\nend\nrecord b\nend\nglobal b: flag\ndef a()\nend\n", Twice, "b")

    def test_before_rule_2(self):
        self.refused("record r\n  f: 9..0\nend\nglobal x: flag\nglobal x: flag\n", Twice, "x")
        self.refused("record r\n  f: flag\n  f: flag\nend\ndef x()\nend\ndef x()\nend\n", Twice, "x")


class TestRule2(NamesCase):
    def test_field_twice(self):
        self.refused("record r\n  f: flag\n  g: flag\n  f: 0..1\nend\n" + MAIN, Twice, "f")

    def test_same_field_in_two_records(self):
        self.accepted("record r\n  f: flag\nend\nrecord q\n  f: flag\nend\n" + MAIN)

    def test_wrong_numbers(self):
        self.refused("record r\n  f: 1..0\nend\n" + MAIN, BadKind, "f")
        self.refused("record r\n  f: 0..8\nend\n" + MAIN, BadKind, "f")
        self.refused("record r\n  f: -9..9\nend\n" + MAIN, BadKind, "f")
        self.accepted("record r\n  f: 0..7\nend\n" + MAIN)

    def test_references(self):
        self.refused("record r\n  f: q\nend\n" + MAIN, Unknown, "q")
        self.refused("record r\n  f: r\nend\n" + MAIN, Unknown, "r")
        self.refused("record r\n  f: q\nend\nrecord q\nend\n" + MAIN, Unknown, "q")
        self.refused("record r\n  f: x\nend\nglobal x: flag\n" + MAIN, Unknown, "x")
        self.accepted("record q\nend\nrecord r\n  f: q\nend\n" + MAIN)

    def test_name_before_kind_of_one_field(self):
        self.refused("record r\n  f: flag\n  f: 9..0\nend\n" + MAIN, Twice, "f")
        self.refused("record r\n  f: flag\n  f: q\nend\n" + MAIN, Twice, "f")

    def test_one_field_before_the_next(self):
        self.refused("record r\n  f: 9..0\n  f: flag\nend\n" + MAIN, BadKind, "f")
        self.refused("record r\n  f: q\n  g: 9..0\nend\n" + MAIN, Unknown, "q")
        self.refused("record r\n  g: 9..0\n  f: q\nend\n" + MAIN, BadKind, "g")

    def test_one_record_before_the_next(self):
        self.refused("record r\n  f: q\nend\nrecord q\n  g: flag\n  g: flag\nend\n" + MAIN,
                     Unknown, "q")

    def test_before_rule_3(self):
        self.refused("record r\n  f: r\nend\narray a[0]: 0..1\n" + MAIN, Unknown, "r")


class TestRule3(NamesCase):
    def test_lengths(self):
        for length in (0, -1, -64):
            self.refused("array a[" + str(length) + "]: 0..1\n" + MAIN, BadKind, "a")
        self.accepted("array a[1]: 0..1\n" + MAIN)
        self.accepted("array a[64]: 0..1\n" + MAIN)

    def test_ranges(self):
        self.refused("array a[1]: 1..0\n" + MAIN, BadKind, "a")
        self.accepted("array a[1]: 1..1\n" + MAIN)

    def test_first_array_and_before_rule_4(self):
        self.refused("array b[1]: 0..1\narray c[1]: 2..1\narray a[0]: 0..1\nglobal x: 3..2\n" + MAIN,
                     BadKind, "c")


class TestRule4(NamesCase):
    def test_numbers(self):
        self.refused("global x: 1..0\n" + MAIN, BadKind, "x")
        self.accepted("global x: -1000000000..1000000000\n" + MAIN)

    def test_references(self):
        self.refused("global x: r\n" + MAIN, Unknown, "r")
        self.refused("global x: x\n" + MAIN, Unknown, "x")
        self.refused("array a[1]: 0..1\nglobal x: a\n" + MAIN, Unknown, "a")
        self.refused("global x: main\n" + MAIN, Unknown, "main")

    def test_first_global_and_before_rule_5(self):
        late = "def f(a: 1..0)\nend\n" + MAIN
        self.refused("global x: flag\nglobal y: r\nglobal z: 1..0\n" + late, Unknown, "r")
        self.refused("global x: flag\nglobal z: 1..0\nglobal y: r\n" + late, BadKind, "z")


class TestRule5(NamesCase):
    def test_names_of_the_top(self):
        for name in ("r", "a", "x", "f", "main"):
            top = "record r\nend\narray a[1]: 0..1\nglobal x: flag\n"
            self.refused(top + "def f(" + name + ": flag)\nend\n" + MAIN, Twice, name)
            self.refused(top + "def f()\n  var " + name + ": flag\nend\n" + MAIN, Twice, name)

    def test_name_of_a_later_function(self):
        self.refused("def f(g: flag)\nend\ndef g()\nend\n" + MAIN, Twice, "g")

    def test_parameters_and_locals(self):
        self.refused("def f(a: flag, b: flag, a: 0..1)\nend\n" + MAIN, Twice, "a")
        self.refused("def f(a: flag)\n  var b: flag\n  var a: 0..1\nend\n" + MAIN, Twice, "a")
        self.refused("def f()\n  var b: flag\n  var a: 0..1\n  var b: flag\nend\n" + MAIN, Twice, "b")

    def test_kinds(self):
        self.refused("def f(a: 1..0)\nend\n" + MAIN, BadKind, "a")
        self.refused("def f()\n  var a: 1..0\nend\n" + MAIN, BadKind, "a")
        self.refused("def f(): 1..0\nend\n" + MAIN, BadKind, "f")
        self.refused("def f(a: r)\nend\n" + MAIN, Unknown, "r")
        self.refused("def f()\n  var a: r\nend\n" + MAIN, Unknown, "r")
        self.refused("def f(): r\nend\n" + MAIN, Unknown, "r")
        self.refused("global x: flag\ndef f(a: x)\nend\n" + MAIN, Unknown, "x")
        self.accepted("def f(a: 0..100): -100..100\n  var b: 0..100\nend\n" + MAIN)

    def test_name_before_kind(self):
        self.refused("def f(a: flag, a: 1..0)\nend\n" + MAIN, Twice, "a")
        self.refused("def f(a: flag)\n  var a: r\nend\n" + MAIN, Twice, "a")

    def test_one_parameter_before_the_next(self):
        self.refused("def f(a: 1..0, a: flag)\nend\n" + MAIN, BadKind, "a")
        self.refused("def f(a: r, b: 1..0)\nend\n" + MAIN, Unknown, "r")
        self.refused("def f(a: 1..0)\n  var main: flag\nend\n" + MAIN, BadKind, "a")

    def test_parameters_then_locals_then_the_result(self):
        self.refused("def f(a: 1..0): r\n  var b: q\nend\n" + MAIN, BadKind, "a")
        self.refused("def f(a: flag): r\n  var b: q\nend\n" + MAIN, Unknown, "q")
        self.refused("def f(a: flag): r\n  var b: flag\nend\n" + MAIN, Unknown, "r")

    def test_one_function_before_the_next(self):
        self.refused("def f(): 3..2\nend\ndef g(a: flag, a: flag)\nend\n" + MAIN, BadKind, "f")

    def test_all_heads_before_rule_6(self):
        self.refused("def f()\n  nothing()\nend\ndef g(): 3..2\nend\n" + MAIN, BadKind, "g")


class TestRule6(NamesCase):
    def unknown(self, line, name):
        self.refused(program_with(line), Unknown, name)

    def test_variables(self):
        for line in ("u = 1", "u = input", "u = new", "free u", "u = d.open", "one = u.open",
                     "u.open = true", "d.open = u", "u = row[0]", "one = row[u]", "row[u] = 1",
                     "row[0] = u", "u = number(1, true)", "number(u, true)", "one = number(1, u)",
                     "return u", "if u\nend", "while u\nend", "assert u", "one = (1 + u)",
                     "flagone = (not u)", "flagone = (one < u)", "flagone = (u same d)"):
            self.unknown(line, "u")

    def test_other_things_are_no_variables(self):
        for name in ("row", "quiet", "door", "open", "main", "from", "a"):
            self.unknown("one = " + name, name)
            self.unknown(name + " = 1", name)
            self.unknown("free " + name, name)
            self.unknown("quiet(" + name + ")", name)

    def test_other_things_are_no_arrays(self):
        for name in ("one", "quiet", "door", "u", "main"):
            self.unknown("one = " + name + "[0]", name)
            self.unknown(name + "[0] = 1", name)

    def test_other_things_are_no_functions(self):
        for name in ("one", "row", "door", "u"):
            self.unknown(name + "()", name)
            self.unknown("one = " + name + "()", name)

    def test_own_locals_and_parameters_only(self):
        self.refused("def f(p: flag)\n  var v: flag\nend\ndef main()\n  v = true\nend\n", Unknown, "v")
        self.refused("def f(p: flag)\n  var v: flag\nend\ndef main()\n  p = true\nend\n", Unknown, "p")
        self.accepted("def f(p: flag)\n  var v: flag\n  v = p\nend\n" + MAIN)

    def test_names_from_left_to_right(self):
        for line, name in (
            ("u = v", "u"), ("one = (v + u)", "v"), ("u = v.open", "u"), ("one = v.w", "v"),
            ("u.open = v", "u"), ("u = v[w]", "u"), ("one = v[w]", "v"), ("one = row[(w - v)]", "w"),
            ("v[w] = u", "v"), ("row[w] = u", "w"), ("u = v(w)", "u"), ("one = v(w)", "v"),
            ("number(w, v)", "w"), ("number(1, (v and w))", "v"), ("v(w)", "v"),
            ("return ((u + 1) < (v + w))", "u"), ("assert ((not v) or u)", "v"),
        ):
            self.unknown(line, name)

    def test_fields_are_no_names(self):
        self.refused(program_with("one = d.nothing"), WrongKind, "main", 1)
        self.refused(program_with("d.nothing = one"), WrongKind, "main", 1)

    def test_names_before_kinds_of_one_statement(self):
        self.unknown("one = (true + u)", "u")
        self.unknown("d = row[u]", "u")
        self.unknown("one = number(1, 1, u)", "u")
        self.unknown("if (1 and u)\nend", "u")

    def test_one_statement_before_the_next(self):
        self.refused(program_with("one = true\none = u"), WrongKind, "main", 1)
        self.refused(program_with("one = u\none = true"), Unknown, "u")
        self.refused(program_with("one = 2\none = 3\none = true"), WrongKind, "main", 3)

    def test_names_of_an_if_before_its_bodies(self):
        self.refused(program_with("if 1\n  one = u\nend"), WrongKind, "main", 1)
        self.refused(program_with("while 1\n  one = u\nend"), WrongKind, "main", 1)
        self.refused(program_with("if u\n  one = v\nend"), Unknown, "u")

    def test_places_in_bodies(self):
        text = "if true\n  one = 1\n  while true\n    one = 2\n    one = true\n  end\nelse\n  one = u\nend"
        self.refused(program_with(text), WrongKind, "main", 5)
        text = "if true\n  one = 1\n  while true\n    one = 2\n  end\nelse\n  one = true\nend\none = u"
        self.refused(program_with(text), WrongKind, "main", 5)
        text = "if true\nelse\n  one = 1\nend\nwhile true\nend\none = true"
        self.refused(program_with(text), WrongKind, "main", 4)

    def test_one_function_before_the_next(self):
        self.refused("def f()\n  assert 1\nend\ndef g()\n  u = 1\nend\n" + MAIN, WrongKind, "f", 0)
        self.refused("def f()\n  u = 1\nend\ndef g()\n  assert 1\nend\n" + MAIN, Unknown, "u")

    def test_before_rule_7(self):
        self.refused("def f()\n  assert 1\nend\n", WrongKind, "f", 0)
        self.refused("def main(): flag\n  u = 1\nend\n", Unknown, "u")
        self.refused("def main(a: flag)\n  return a\nend\n", WrongKind, "main", 0)


class TestPoint20(NamesCase):
    def keeps(self, *lines):
        for line in lines:
            self.accepted(program_with(line))

    def breaks(self, *lines):
        for line in lines:
            self.refused(program_with(line), WrongKind, "main", 1)

    def test_sorts_of_numbers(self):
        for operator in "+-*":
            self.keeps("one = (one " + operator + " wide)", "one = (1 " + operator + " (2 * two))")
            for wrong in ("(one O true)", "(flagone O one)", "(one O d)", "(null O one)",
                          "(null O null)", "(true O false)", "(d O e)"):
                self.breaks("one = " + wrong.replace("O", operator))
            self.breaks("flagone = (one " + operator + " two)")

    def test_sorts_of_comparisons(self):
        for operator in ("<", "<=", "==", "!="):
            self.keeps("flagone = (one " + operator + " wide)", "assert (1 " + operator + " 2)")
            for wrong in ("(one O true)", "(flagone O one)", "(true O true)", "(d O e)",
                          "(null O null)", "(d O null)", "(flagone O flagone)"):
                self.breaks("flagone = " + wrong.replace("O", operator))
            self.breaks("one = (one " + operator + " two)")

    def test_sorts_of_same(self):
        self.keeps("flagone = (d same e)", "flagone = (d same null)", "flagone = (null same h)",
                   "flagone = (null same null)", "flagone = (h same h)")
        self.breaks("flagone = (d same h)", "flagone = (d same one)", "flagone = (one same one)",
                    "flagone = (null same true)", "flagone = (true same d)", "d = (d same e)",
                    "flagone = (0 same null)", "flagone = ((d same e) same null)",
                    "one = (d same e)")

    def test_sorts_of_and_or_not(self):
        for operator in ("and", "or"):
            self.keeps("flagone = (flagone " + operator + " (one < 2))")
            for wrong in ("(flagone O 1)", "(one O true)", "(1 O 2)", "(d O true)", "(true O null)"):
                self.breaks("flagone = " + wrong.replace("O", operator))
            self.breaks("one = (true " + operator + " true)")
        self.keeps("flagone = (not flagone)", "flagone = (not (not (d same e)))")
        self.breaks("flagone = (not 1)", "flagone = (not d)", "flagone = (not null)",
                    "one = (not flagone)", "one = (not one)")

    def test_broken_parts_deep_within(self):
        self.breaks("flagone = (true or (one < (1 + (not true))))",
                    "flagone = (true and (not (not (1 + true))))",
                    "flagone = ((1 + true) same null)", "flagone = (null same (not 1))",
                    "flagone = ((1 + true) same (not 1))", "flagone = (not (not 1))",
                    "flagone = ((not 1) == (not 1))", "flagone = ((1 + true) and (not 1))")

    def test_set(self):
        self.keeps("one = 1000", "one = wide", "one = -5", "flagone = flagone", "d = e", "d = null",
                   "h = h", "h = null", "flagone = false")
        self.breaks("one = true", "one = null", "one = d", "flagone = 0", "flagone = 1",
                    "flagone = null", "flagone = d", "d = h", "d = 0", "d = false", "h = d",
                    "one = flagone")

    def test_input(self):
        self.keeps("one = input", "flagone = input", "wide = input")
        self.breaks("d = input", "h = input")

    def test_new_and_free(self):
        self.keeps("d = new", "h = new", "free d", "free h")
        self.breaks("one = new", "flagone = new", "free one", "free flagone")

    def test_load(self):
        head = "def work(p: 0..3, q: 0..2, r: 0..7)"
        self.keeps("flagone = d.open", "d = h.front")
        self.accepted(program_with("p = d.many", head))
        self.accepted(program_with("r = h.count", head))
        for line in ("q = d.many", "r = d.many", "p = h.count"):
            self.refused(program_with(line, head), WrongKind, "work", 1)
        self.breaks("one = d.many", "one = d.open", "flagone = d.many", "h = h.front", "e = d.open",
                    "flagone = d.front", "d = d.front", "flagone = h.open", "flagone = one.open",
                    "flagone = flagone.open", "d = d.door", "d = h.door")

    def test_store(self):
        self.keeps("d.open = flagone", "d.many = 7", "d.many = wide", "h.front = d", "h.front = null",
                   "h.count = (one + two)", "d.open = (one < two)")
        self.breaks("d.open = 1", "d.many = true", "d.many = null", "h.front = h", "h.front = 0",
                    "h.open = true", "d.front = d", "one.open = true", "flagone.open = true",
                    "d.open = null", "d.open = d", "h.count = d", "d.open = (1 + true)")

    def test_get(self):
        self.keeps("one = row[0]", "two = row[(wide * 3)]", "one = row[-1]", "one = row[99]")
        self.breaks("wide = row[0]", "one = col[0]", "flagone = row[0]", "d = row[0]",
                    "one = row[true]", "one = row[d]", "one = row[null]", "one = row[(1 < 2)]")
        self.accepted(program_with("p = col[one]", "def work(p: -1..1)"))
        self.refused(program_with("p = row[one]", "def work(p: 0..8)"), WrongKind, "work", 1)
        self.refused(program_with("p = row[one]", "def work(p: 1..9)"), WrongKind, "work", 1)

    def test_put(self):
        self.keeps("row[0] = 1", "row[wide] = wide", "col[-5] = 100")
        self.breaks("row[true] = 1", "row[0] = true", "row[d] = 1", "row[0] = null", "row[null] = 1",
                    "row[0] = d", "row[(1 < 2)] = 1")

    def test_call(self):
        self.keeps("quiet()", "number(1, true)", "one = number(99, flagone)", "two = number(wide, true)",
                   "truth()", "flagone = truth()", "make(null)", "d = make(e)", "make(d)", "main()")
        self.breaks("quiet(1)", "number()", "number(1)", "number(1, true, 2)", "number(true, 1)",
                    "number(1, 1)", "number(true, true)", "number(d, true)", "number(null, true)",
                    "make(h)", "make(1)", "make(true)", "make()", "truth(null)",
                    "one = quiet()", "d = quiet()", "flagone = quiet()", "wide = number(1, true)",
                    "flagone = number(1, true)", "one = truth()", "h = make(d)", "one = make(d)",
                    "one = main()", "number((1 + true), true)")

    def test_return(self):
        self.keeps("return")
        self.breaks("return 1", "return true", "return null", "return d")
        for result, right, wrong in (
            ("0..9", ["1", "1000", "wide", "(one - 5)"], ["true", "null", "d", "(1 < 2)"]),
            ("flag", ["true", "(1 < 2)"], ["1", "null", "d"]),
            ("door", ["d", "null"], ["h", "1", "true", "(d same e)"]),
        ):
            head = "def work(): " + result
            for text in right:
                self.accepted(program_with("return " + text, head))
            for text in wrong:
                self.refused(program_with("return " + text, head), WrongKind, "work", 1)
            self.refused(program_with("return", head), WrongKind, "work", 1)

    def test_a_function_with_a_result_needs_no_return(self):
        self.accepted(program_with("one = 2", "def work(): flag"))

    def test_tests(self):
        for word in ("if E\nend", "while E\nend", "assert E"):
            for text in ("true", "flagone", "(one < 2)", "(d same null)"):
                self.keeps(word.replace("E", text))
            for text in ("1", "0", "null", "d", "one", "(1 + 1)", "(true + 1)", "(not 1)"):
                self.breaks(word.replace("E", text))

    def test_break(self):
        self.keeps("while true\n  break\nend", "while true\n  if true\n    break\n  end\nend",
                   "while true\n  if true\n  else\n    break\n  end\nend",
                   "while true\n  while true\n  end\n  break\nend")
        self.breaks("break")
        self.refused(program_with("if true\n  break\nend"), WrongKind, "main", 2)
        self.refused(program_with("if true\nelse\n  break\nend"), WrongKind, "main", 2)
        self.refused(program_with("while true\nend\nbreak"), WrongKind, "main", 2)
        self.refused(program_with("while true\n  break\nend\nif true\n  break\nend"),
                     WrongKind, "main", 4)


class TestRule7(NamesCase):
    def test_no_main(self):
        self.refused("", Unknown, "main")
        self.refused("def f()\nend\n", Unknown, "main")
        self.refused("global main: flag\n", Unknown, "main")
        self.refused("record main\nend\n", Unknown, "main")
        with self.assertRaises(Unknown):
            check_program(EMPTY)

    def test_main_with_parameters_or_a_result(self):
        self.refused("def main(a: flag)\nend\n", WrongKind, "main", 0)
        self.refused("def main(): flag\nend\n", WrongKind, "main", 0)
        self.refused("def main(a: flag): flag\n  return a\nend\n", WrongKind, "main", 0)
        self.accepted("def main()\n  var a: flag\nend\n")


class TestPassedPrograms(NamesCase):
    def test_programs_are_not_changed_and_errors_are_its_own(self):
        maker = FreeMaker(9)
        for _ in range(500):
            program = maker.program()
            before = repr(program)
            try:
                check_program(program)
            except (Twice, Unknown, BadKind, WrongKind) as error:
                self.assertIn(type(error), (Twice, Unknown, BadKind, WrongKind))
            self.assertEqual(repr(program), before)


if __name__ == "__main__":
    unittest.main()
