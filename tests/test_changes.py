"""Points 69 to 71: other functions in a program, and what is kept of its analysis."""

import unittest

from neverhappens.analysis import Analysis, analyse
from neverhappens.changes import replace_function, revise
from neverhappens.errors import BadKind, NeverError, Twice, Unknown, WrongChange, WrongKind
from neverhappens.reading import read_function, read_program
from neverhappens.rules import Rules
from neverhappens.zones import is_inside
from tests.making import CarefulMaker, NumberMaker, PlainMaker, RightMaker
from tests.samples import DOOR
from tests.tabling import slow_leads
from tests.test_tables import LOOP, RECORDS, RECURSION

CALLS = """\
global a: 0..20
global seen: flag
def twice(n: 0..20): 0..40
  return (n + n)
end
def note(f: flag)
  seen = f
end
def both(n: 0..20, f: flag): 0..40
  var m: 0..40
  m = twice(n)
  note(f)
  return m
end
def main()
  var x: 0..40
  a = input
  if (a < 5)
    x = both(a, true)
    assert (x <= 8)
  else
    x = twice(3)
    x = both(4, false)
  end
  note(true)
end
"""


def slow_kept(analysis, name):
    """What is kept, by point 70: touched rows are looked for until no further one is found."""
    rows = analysis.first
    touched = [row[:4] for row in rows if row[0] == name]
    leads = slow_leads(Rules(analysis.program), rows)
    while True:
        found = [led[:4] for led, row, other in leads
                 if row[:4] in touched or (other is not None and other[:4] in touched)]
        fresh = [one for one in found if one not in touched]
        if not fresh:
            return tuple(row[:4] for row in rows if row[:4] not in touched)
        touched += fresh


class TestReplaceFunction(unittest.TestCase):
    def test_in_its_place(self):
        program = read_program(CALLS)
        for at, old in enumerate(program[3]):
            function = (*old[:3], (("new", ("flag",)),), (("input", "new"),))
            found = replace_function(program, function)
            self.assertEqual(found[:3], program[:3])
            self.assertEqual(found[3], (*program[3][:at], function, *program[3][at + 1:]))
            self.assertEqual(replace_function(program, old), program)

    def test_wrong_changes(self):
        program = read_program(CALLS)
        number, flag = ("num", 0, 20), ("flag",)
        for name, params, result in (
            ("none", (), None), ("", (), None), ("a", (), None), ("twiced", (("n", number),), ("num", 0, 40)),
            ("twice", (), ("num", 0, 40)), ("twice", (("m", number),), ("num", 0, 40)),
            ("twice", (("n", ("num", 0, 21)),), ("num", 0, 40)), ("twice", (("n", flag),), ("num", 0, 40)),
            ("twice", (("n", number), ("m", number)), ("num", 0, 40)), ("twice", (("n", number),), None),
            ("twice", (("n", number),), ("num", 0, 41)), ("twice", (("n", number),), flag),
            ("note", (("f", flag),), flag), ("note", (("f", ("num", 0, 1)),), None), ("main", (("f", flag),), None),
            ("both", (("f", flag), ("n", number)), ("num", 0, 40)), ("main", (), flag),
        ):
            for body in ((), (("break",),)):
                with self.assertRaises(WrongChange) as caught:
                    replace_function(program, (name, params, result, (), body))
                self.assertEqual(caught.exception.name, name)
                with self.assertRaises(WrongChange) as caught:
                    revise(analyse(program), (name, params, result, (), body))
                self.assertEqual(caught.exception.name, name)

    def test_the_new_program_is_not_checked(self):
        program = read_program(CALLS)
        for locals_, body in (
            ((("a", ("flag",)),), ()), ((("x", ("num", 3, 2)),), ()), ((("x", ("ref", "none")),), ()),
            ((("x", ("flag",)), ("x", ("flag",))), ()), ((), (("set", "none", ("num", 1)),)),
            ((), (("set", "a", ("flag", True)),)), ((), (("break",),)),
        ):
            function = ("main", (), None, locals_, body)
            self.assertEqual(replace_function(program, function), (*program[:3], (*program[3][:3], function)))


class ChangeCase(unittest.TestCase):
    def check(self, program, function, limit=200, rounds=2):
        """Returns the numbers of the rows that are kept and of those that are not."""
        analysis = analyse(program, limit=limit, rounds=rounds)
        before = (analysis.first, analysis.rows)
        revised = revise(analysis, function)
        fresh = analyse(replace_function(program, function), limit=limit, rounds=rounds)
        self.assertIsInstance(revised, Analysis)
        for name in ("program", "limit", "rounds", "cut", "first", "rows"):
            self.assertEqual(repr(getattr(revised, name)), repr(getattr(fresh, name)), name)
        self.assertEqual((list(revised), len(revised)), (list(fresh), len(fresh)))
        self.assertEqual((analysis.first, analysis.rows, analysis.kept, analysis.program), (*before, (), program))
        if analysis.cut or fresh.cut:
            self.assertEqual(revised.kept, ())
            return 0, 0
        self.assertEqual(repr(revised.kept), repr(slow_kept(analysis, function[0])))
        self.check_kept(analysis, revised)
        return len(revised.kept), len(analysis.first) - len(revised.kept)

    def check_kept(self, analysis, revised):
        """Point 71."""
        old = {row[:4]: row[4] for row in analysis.first}
        new = {row[:4]: row[4] for row in revised.first}
        for kept in revised.kept:
            self.assertTrue(is_inside(old[kept], new[kept]))


class TestRevise(ChangeCase):
    def test_programs(self):
        for text in (CALLS, LOOP, RECURSION, RECORDS):
            program = read_program(text)
            for function in program[3]:
                self.check(program, function)
                self.check(program, (*function[:4], ()))
                self.check(program, (*function[:4], function[4][:-1]))
                self.check(program, (*function[:4], function[4][1:]))
                self.check(program, (*function[:4], (*function[4], *function[4])))
        self.assertEqual(self.check(DOOR, DOOR[3][0])[1] > 0, True)

    def test_what_is_kept_of_calls(self):
        program = read_program(CALLS)
        names = {}
        for function in program[3]:
            kept = revise(analyse(program), function).kept
            names[function[0]] = sorted({(one[0], one[2]) for one in kept})
        # Before the first call of a function that changes nothing is touched.
        self.assertEqual([place for name, place in names["twice"] if name == "main"], [0, 1, 2, 4])
        self.assertEqual([place for name, place in names["twice"] if name == "both"], [0])
        self.assertEqual(names["main"], [])
        # Both functions call `twice` with the same entry, so what comes behind main's call is touched.
        self.assertEqual([place for name, place in names["both"] if name == "main"], [0, 1, 2, 4])
        self.assertIn(("twice", 0), names["note"])
        self.assertNotIn(("note", 0), names["note"])
        self.assertIn(("main", 0), names["both"])

    def test_a_touched_row_also_where_others_lead(self):
        """The exit of main is touched, although the other way there is not."""
        text = "global f: flag\ndef g()\n  f = true\nend\ndef main()\n  var x: flag\n  x = input\n  if x\n    g()\n    f = false\n  end\n  x = false\nend\n"
        program = read_program(text)
        analysis = analyse(program)
        kept = revise(analysis, program[3][0]).kept
        self.assertEqual({one[2] for one in kept}, {0, 1, 2, 4})
        # Both ways lead to place 4 with the same values of f and different ones of x.
        self.assertEqual([one[3] for one in kept if one[2] == 4], [((False, False), ())])

    def test_the_start_is_touched(self):
        """The function calls main, which begins as the run does."""
        text = "global f: flag\ndef g()\n  main()\nend\ndef main()\n  if f\n    g()\n  end\n  f = input\n  if f\n    f = false\n    g()\n  end\nend\n"
        program = read_program(text)
        analysis = analyse(program)
        start = Rules(program).start()
        kept = revise(analysis, program[3][0]).kept
        self.assertNotIn(start[:4], kept)
        self.assertEqual(kept, ())

    def test_equal_functions_and_functions_that_do_more(self):
        program = read_program(CALLS)
        twice, note, both, main = program[3]
        self.assertEqual(revise(analyse(program), twice).program, program)
        more = read_function("def note(f: flag)\n  var k: 0..3\n  k = input\n  seen = (f and (k < 2))\nend\n")
        kept, others = self.check(program, more)
        self.assertGreater(min(kept, others), 5)
        none = read_function("def both(n: 0..20, f: flag): 0..40\n  return 9\nend\n")
        self.check(program, none)
        called = read_function("def note(f: flag)\n  main()\nend\n")
        self.check(program, called)

    def test_programs_that_are_refused(self):
        program = read_program(CALLS)
        note = program[3][1]
        for locals_, body, error in (
            ((("a", ("flag",)),), (), Twice), ((("x", ("num", 3, 2)),), (), BadKind),
            ((("x", ("ref", "none")),), (), Unknown), ((), (("set", "none", ("num", 1)),), Unknown),
            ((), (("set", "a", ("flag", True)),), WrongKind), ((), (("break",),), WrongKind),
        ):
            for limit in (200, 1):
                analysis = analyse(program, limit=limit)
                with self.assertRaises(error):
                    revise(analysis, (*note[:3], locals_, body))
                with self.assertRaises(error):
                    revise(analysis, (*note[:3], locals_, body), picks=(3,))

    def test_cut_analyses(self):
        program = read_program(CALLS)
        many = len(analyse(program).first)
        main = program[3][3]
        short = (*main[:4], main[4][:1])
        # The old one is cut, the new one is cut, both are, none is.
        cut = analyse(program, limit=many - 1)
        self.assertEqual((cut.cut, revise(cut, short).cut, revise(cut, short).kept), (True, False, ()))
        self.assertNotEqual(revise(cut, short).first, ())
        whole = analyse(replace_function(program, short), limit=many - 1)
        self.assertEqual((whole.cut, revise(whole, main).cut, revise(whole, main).kept), (False, True, ()))
        self.assertEqual(revise(whole, main).rows, ())
        self.assertEqual((revise(cut, main).cut, revise(cut, main).kept), (True, ()))
        # Nothing of main is kept, but something of what it does not call.
        self.assertIs(revise(analyse(program, limit=many), program[3][0]).cut, False)
        self.assertNotEqual(revise(analyse(program, limit=many), program[3][0]).kept, ())

    def test_limit_and_rounds_are_kept(self):
        program = read_program(LOOP)
        for rounds in range(5):
            analysis = analyse(program, limit=77 + rounds, rounds=rounds)
            revised = revise(analysis, program[3][0], picks=(2,))
            self.assertEqual((revised.limit, revised.rounds), (77 + rounds, rounds))
            self.assertEqual(revised.rows, analysis.rows)

    def test_picks_change_nothing(self):
        program = read_program(RECORDS)
        analysis = analyse(program)
        wanted = revise(analysis, program[3][0])
        for picks in ((1,), (0, 5, 2), (10 ** 20, 3)):
            found = revise(analysis, program[3][0], picks=picks)
            self.assertEqual((found.first, found.rows, found.kept), (wanted.first, wanted.rows, wanted.kept))

    def test_again_and_again(self):
        """What is kept is told for the last change alone."""
        program = read_program(CALLS)
        twice, note, _, main = program[3]
        one = revise(analyse(program), (*twice[:4], ()))
        other = revise(one, (*note[:4], ()))
        self.assertEqual(other.kept, slow_kept(one, "note"))
        self.assertEqual(revise(other, main).kept, slow_kept(other, "main"))
        self.assertEqual(other.program[3], ((*twice[:4], ()), (*note[:4], ()), *program[3][2:]))

    def test_kept_is_from_the_first_table(self):
        seen = 0
        for text in (LOOP, RECURSION):
            program = read_program(text)
            analysis = analyse(program, rounds=4)
            kept = revise(analysis, program[3][-2]).kept
            firsts = [row[:4] for row in analysis.first]
            self.assertEqual([one for one in firsts if one in kept], list(kept))
            seen += len(kept)
        self.assertGreater(seen, 5)

    def test_programs_by_chance(self):
        kept, others = 0, 0
        for seed in range(9):
            for maker in (CarefulMaker, NumberMaker, PlainMaker, RightMaker):
                program = maker(seed).program()
                for function in program[3]:
                    for body in (function[4], function[4][:1], function[4][1:], function[4][:1] * 2 + function[4][1:]):
                        try:
                            numbers = self.check(program, (*function[:4], body), 60, 1)
                        except NeverError:
                            continue
                        kept += numbers[0]
                        others += numbers[1]
        self.assertGreater(kept, 200)
        self.assertGreater(others, 200)


if __name__ == "__main__":
    unittest.main()
