"""Points 66, 74 to 78: verdicts, other questions about all runs, and least numbers of visits."""

import unittest

from neverhappens.analysis import analyse
from neverhappens.checker import accepts
from neverhappens.errors import NoPlace, NoSite, NotAccepted, NotPlain, Unknown, WrongKind
from neverhappens.least import entry_visits, frame_visits
from neverhappens.plain import run
from neverhappens.reading import read_expression, read_program
from neverhappens.rules import Rules
from neverhappens.sites import is_plain, sites
from neverhappens.statements import list_statements
from neverhappens.values import evaluate
from neverhappens.verdicts import holds, never_by, report, returns, verdict, visited
from tests.exploring import Seen, levels
from tests.making import CarefulMaker, GentleMaker, NumberMaker, TinyMaker
from tests.samples import DOOR
from tests.tabling import ids_of
from tests.test_tables import LOOP, RECORDS, RECURSION

OPEN, NEVER, ALWAYS = ("open",), ("never",), ("always",)

# `deep` calls itself until an input stops it; `use` is called from two places with two entries.
CALLS = """\
record leaf
  n: 0..3
end
global g: 0..3
global held: leaf
def deep(k: 0..3): 0..3
  var f: flag
  f = input
  if f
    g = deep(k)
    return g
  end
  return k
end
def use(l: leaf): 0..3
  var n: 0..3
  n = l.n
  free l
  return n
end
def idle(k: 0..3): 0..3
  return (k + 1)
end
def empty(): flag
end
def main()
  var l: leaf
  var n: 0..3
  var f: flag
  l = new
  held = l
  n = input
  f = empty()
  assert (not f)
  if (n < 2)
    l.n = n
    n = use(l)
  else
    n = deep((n - 1))
  end
  n = use(held)
  assert (n != 0)
  n = (n + g)
end
"""

# Each function calls the one before it twice: 3 * 2 ** 40 - 3 visits and more.
DOUBLING = "".join(
    f"def f{at}()\n  f{at - 1}()\n  f{at - 1}()\nend\n" if at else "def f0()\nend\n" for at in range(41)
) + "global k: 0..1\ndef main()\n  f40()\n  k = 2\nend\n"
DOUBLING = "global k: 0..1\n" + DOUBLING.replace("global k: 0..1\n", "")


class TestExact(unittest.TestCase):
    """Points 74, 75, 77 and 78 against all runs with all inputs."""

    def check(self, program, visits, most):
        analysis = analyse(program, limit=600)
        if analysis.cut:
            return 0
        rules = Rules(program)
        seen = Seen(rules, visits, most)
        self.check_faults(analysis, seen)
        self.check_places(analysis, seen)
        self.check_rows(analysis, seen)
        for name in seen.ends:
            self.assertEqual(returns(analysis, name), ("can", seen.ends[name]))
        for function in program[3]:
            self.same(returns(analysis, function[0]), seen.ends.get(function[0]), seen.depth)
        return len(seen.rows)

    def same(self, answer, number, depth):
        """The answer is right, as far as the runs were followed."""
        if answer == NEVER or answer == ALWAYS:
            self.assertIsNone(number)
        elif number is None:
            self.assertGreater(answer[1], depth)
        else:
            self.assertEqual(answer[1], number)

    def check_faults(self, analysis, seen):
        answers = report(analysis)
        self.assertEqual([site for site, _ in answers], sites(analysis.program))
        for site, answer in answers:
            self.assertIn(answer[0], ("never", "can"))
            self.same(answer, seen.faults.get(site), seen.depth)
        for site, answer in answers[:6]:
            self.assertEqual(verdict(analysis, *site), answer)

    def check_places(self, analysis, seen):
        for function in analysis.program[3]:
            for place in range(len(list_statements(function[4]))):
                number = seen.places.get((function[0], place))
                # A place that is reached with the last visit was seen, too.
                self.same(visited(analysis, function[0], place), number, seen.depth)

    def check_rows(self, analysis, seen):
        frames, entries = frame_visits(analysis), entry_visits(analysis)
        self.assertEqual(sorted(map(repr, frames)), sorted(map(repr, ids_of(analysis.rows))))
        self.assertEqual(set(entries), {row[:2] for row in analysis.rows})
        for found in seen.rows:
            self.assertIn(found, analysis)
        for found, number in frames.items():
            if entries[found[:2]] + number < seen.depth:
                self.assertEqual(seen.frames[found], number)
                self.assertEqual(seen.rows[found], entries[found[:2]] + number)

    def test_programs(self):
        for text in (CALLS, RECORDS):
            self.assertGreater(self.check(read_program(text), 22, 60), 20)
        self.assertGreater(self.check(DOOR, 15, 5), 5)

    def test_programs_by_chance(self):
        rows = 0
        for seed in range(90):
            rows += self.check(TinyMaker(seed).program(), 12, 60)
        for seed in range(15):
            rows += self.check(GentleMaker(seed).program(), 10, 25)
        self.assertGreater(rows, 1200)

    def test_holds(self):
        fails = 0
        for seed in range(40):
            program = TinyMaker(seed).program()
            analysis = analyse(program, limit=600)
            seen = Seen(Rules(program), 11, 60)
            fails += sum(self.check_holds(analysis, seen, text) for text in (
                "(g < 2)", "((g + 1) != 2)", "(p same null)", "(not (p same null))", "true", "false",
                "((g == 0) or ((p same null) and (g < 2)))",
            ))
        self.assertGreater(fails, 400)

    def check_holds(self, analysis, seen, text):
        """Returns the number of places at which the expression may fail."""
        expression = read_expression(text)
        fails = 0
        for function in analysis.program[3]:
            for place in range(len(list_statements(function[4]))):
                numbers = [count for count, machine in seen.states.get((function[0], place), ())
                           if not evaluate(expression, dict(zip(("g", "p"), machine.state()[1])))]
                found = holds(analysis, function[0], place, expression)
                self.assertIn(found[0], ("always", "fails"))
                self.same(found, min(numbers, default=None), seen.depth)
                fails += found[0] == "fails"
        return fails

    def test_holds_with_variables_of_the_frame(self):
        analysis = analyse(read_program(CALLS))
        for name, place, text, wanted in (
            ("deep", 1, "f", ("fails", 9)), ("deep", 1, "(k < 3)", ALWAYS), ("deep", 4, "(k == 1)", ("fails", 10)),
            ("deep", 4, "(k == 2)", ("fails", 10)), ("main", 4, "(not f)", ALWAYS), ("main", 4, "(n == 0)", ("fails", 5)),
            ("use", 0, "(not (l same null))", ALWAYS), ("use", 0, "(l same held)", ALWAYS), ("idle", 0, "false", ALWAYS),
            ("main", 10, "(held same l)", ALWAYS), ("main", 11, "false", ALWAYS), ("main", 10, "false", ("fails", 15)),
        ):
            found = holds(analysis, name, place, read_expression(text))
            self.assertEqual(found, wanted, (name, place, text))


class TestLeast(unittest.TestCase):
    def test_numbers_by_hand(self):
        program = read_program("global g: 0..1\ndef f(k: 0..1)\n  g = k\nend\ndef none()\nend\ndef main()\n  g = input\n  f(g)\n  if (g == 0)\n    f(0)\n    none()\n  end\n  f(1)\nend\n")
        analysis = analyse(program)
        entries = entry_visits(analysis)
        self.assertEqual(entries, {
            ("main", ((0,), ())): 0, ("f", ((0, 0), ())): 2, ("f", ((1, 1), ())): 2, ("f", ((0, 1), ())): 8,
            ("none", ((0,), ())): 7,
        })
        frames = {}
        for (name, entry, place, key), number in frame_visits(analysis).items():
            frames.setdefault((name, place), []).append((key[0], number))
        self.assertEqual(sorted(frames[("f", 0)]), [((0, 0), 0), ((0, 1), 0), ((1, 1), 0)])
        self.assertEqual(sorted(frames[("f", 1)]), [((0,), 1), ((1,), 1), ((1,), 1)])
        self.assertEqual(frames[("none", 0)], [((0,), 0)])
        # The call of `none` counts one visit, and those of `f` two.
        self.assertEqual(sorted(frames[("main", 4)]), [((0,), 6)])
        self.assertEqual(sorted(frames[("main", 5)]), [((0,), 7), ((1,), 4)])
        self.assertEqual(sorted(frames[("main", 6)]), [((1,), 6)])
        self.assertEqual(returns(analysis, "main"), ("can", 6))
        self.assertEqual(returns(analysis, "none"), ("can", 7))
        self.assertEqual(visited(analysis, "f", 0), ("can", 3))
        self.assertEqual(visited(analysis, "main", 4), ("can", 7))

    def test_an_entry_that_is_reached_in_several_ways(self):
        """The way that comes first in the program is the longer one."""
        program = read_program("global g: 0..1\ndef f()\n  assert false\nend\ndef main()\n  var b: flag\n  b = input\n  if b\n    g = 1\n    g = 0\n    f()\n  else\n    f()\n  end\nend\n")
        analysis = analyse(program)
        self.assertEqual(entry_visits(analysis)[("f", ((0,), ()))], 3)
        self.assertEqual(verdict(analysis, "f", 0, "assert"), ("can", 4))

    def test_a_beginning_to_which_the_frame_comes_back(self):
        program = read_program("def main()\n  while true\n  end\nend\n")
        self.assertEqual(list(frame_visits(analyse(program)).values()), [0])

    def test_main_that_calls_itself(self):
        program = read_program("global g: 0..3\ndef main()\n  var f: flag\n  f = input\n  if f\n    main()\n  end\nend\n")
        analysis = analyse(program)
        self.assertEqual(entry_visits(analysis), {("main", ((0,), ())): 0})
        self.assertEqual(returns(analysis, "main"), ("can", 2))
        other = analyse(read_program("global g: 0..3\ndef main()\n  if (g < 2)\n    g = (g + 1)\n    main()\n  end\nend\n"))
        self.assertEqual(list(entry_visits(other).values()), [0, 3, 6])
        self.assertEqual(returns(other, "main"), ("can", 7))

    def test_numbers_that_no_run_could_make(self):
        program = read_program(DOUBLING)
        analysis = analyse(program, limit=600)
        visits = 0
        for _ in range(40):
            visits = 2 * (visits + 1)
        self.assertEqual(verdict(analysis, "main", 1, "range"), ("can", visits + 2))
        self.assertEqual(visits, 2 ** 41 - 2)
        self.assertEqual(returns(analysis, "main"), NEVER)
        self.assertEqual(returns(analysis, "f40"), ("can", visits + 1))
        self.assertEqual(returns(analysis, "f0"), ("can", 41))
        self.assertEqual(visited(analysis, "f1", 1), ("can", 42))
        frames = {found[0]: number for found, number in frame_visits(analysis).items() if found[2] == 2}
        self.assertEqual([frames[f"f{at}"] for at in (1, 2, 3)], [2, 6, 14])

    def test_a_main_without_statements(self):
        analysis = analyse(read_program("def main()\nend\n"))
        self.assertEqual(returns(analysis, "main"), ("can", 0))
        self.assertEqual(list(frame_visits(analysis).values()), [0])
        self.assertEqual(report(analysis), [])

    def test_not_plain(self):
        for text in (LOOP, RECURSION, "array a[2]: 0..1\ndef main()\nend\n"):
            for limit in (600, 1):
                analysis = analyse(read_program(text), limit=limit)
                for asked in (frame_visits, entry_visits):
                    with self.assertRaises(NotPlain):
                        asked(analysis)
        for asked in (frame_visits, entry_visits):
            with self.assertRaises(NotPlain):
                asked(analyse(DOOR, limit=2))

    def test_dicts_that_are_changed_afterwards(self):
        analysis = analyse(DOOR)
        for asked in (frame_visits, entry_visits):
            found = asked(analysis)
            wanted = dict(found)
            found.clear()
            self.assertEqual(asked(analysis), wanted)


class TestNotPlain(unittest.TestCase):
    """Points 74 to 76 for programs that are not plain: the first answer, or open."""

    def test_never_or_open(self):
        answers = set()
        for seed in range(40):
            for maker in (CarefulMaker, NumberMaker):
                program = maker(seed).program()
                analysis = analyse(program, limit=300)
                if is_plain(program) or analysis.cut:
                    continue
                rules = Rules(program)
                told = {(row[0], row[2], fault) for row in analysis.rows for fault in rules.faults(row)}
                for site, answer in report(analysis):
                    self.assertEqual(answer, OPEN if site in told else NEVER)
                    answers.add(answer)
                self.check_runs(program, analysis)
        self.assertEqual(answers, {OPEN, NEVER})

    def check_runs(self, program, analysis):
        """What runs do is never told not to happen."""
        for level in levels(program, 14, 12):
            for _, machine, _ in level:
                outcome = machine.outcome()
                if outcome[0] == "fault":
                    self.assertEqual(verdict(analysis, *outcome[1:]), OPEN)
                elif outcome[0] == "going":
                    self.assertEqual(visited(analysis, *outcome[1:]), OPEN)
                else:
                    self.assertEqual(returns(analysis, "main"), OPEN)

    def test_questions(self):
        analysis = analyse(read_program(LOOP))
        self.assertEqual(visited(analysis, "idle", 0), NEVER)
        self.assertEqual(visited(analysis, "main", 0), OPEN)
        self.assertEqual(returns(analysis, "idle"), NEVER)
        self.assertEqual(returns(analysis, "main"), OPEN)
        for name, place, text, wanted in (
            ("main", 0, "(x == 0)", ALWAYS), ("main", 1, "(k < 4)", ALWAYS), ("main", 1, "(k < 3)", OPEN), ("add", 1, "(i < n)", ALWAYS),
            ("add", 1, "(i < 40)", ALWAYS), ("add", 1, "(i < 3)", OPEN), ("add", 3, "((n <= i) and (i <= 90))", ALWAYS),
            ("idle", 0, "false", ALWAYS), ("main", 2, "((k == 2) or (not (k == 2)))", ALWAYS), ("add", 1, "(not (i == 2))", OPEN), ("main", 0, "((k + x) == 0)", ALWAYS),
        ):
            self.assertEqual(holds(analysis, name, place, read_expression(text)), wanted, (name, place, text))

    def test_both_in_one_program(self):
        program = read_program("global a: 0..100\ndef main()\n  var n: 0..10\n  n = input\n  a = (n + 90)\n  a = (a + n)\n  assert (n < 11)\n  assert (n < 10)\nend\n")
        self.assertEqual(report(analyse(program)), [
            (("main", 1, "range"), NEVER), (("main", 2, "range"), OPEN), (("main", 3, "assert"), NEVER),
            (("main", 4, "assert"), OPEN)])

    def test_rows_after_the_rounds_count(self):
        text = "def main()\n  var x: 0..1000\n  while (x < 500)\n    x = (x + 3)\n  end\n  assert (x != ((250 * 2) + 5))\nend\n"
        program = read_program(text)
        self.assertEqual(verdict(analyse(program, rounds=0), "main", 2, "assert"), OPEN)
        self.assertEqual(verdict(analyse(program, rounds=2), "main", 2, "assert"), NEVER)


class TestCut(unittest.TestCase):
    def test_all_is_open(self):
        for text in (CALLS, LOOP):
            program = read_program(text)
            analysis = analyse(program, limit=2)
            self.assertIs(analysis.cut, True)
            self.assertEqual(report(analysis), [(site, OPEN) for site in sites(program)])
            for site in sites(program):
                self.assertEqual(verdict(analysis, *site), OPEN)
            for function in program[3]:
                self.assertEqual(returns(analysis, function[0]), OPEN)
                for place in range(len(list_statements(function[4]))):
                    self.assertEqual(visited(analysis, function[0], place), OPEN)
                    self.assertEqual(holds(analysis, function[0], place, ("flag", True)), OPEN)
                    self.assertEqual(holds(analysis, function[0], place, ("flag", False)), OPEN)


class TestErrors(unittest.TestCase):
    def setUp(self):
        program = read_program(CALLS)
        self.analyses = [analyse(program), analyse(program, limit=2), analyse(read_program(LOOP.replace("def idle", "def use")))]

    def no_place(self, place, asked, *arguments):
        with self.assertRaises(NoPlace) as caught:
            asked(*arguments)
        self.assertEqual((caught.exception.function, caught.exception.place), (arguments[1], place))

    def test_no_site(self):
        for analysis in self.analyses:
            for site in (
                ("none", 0, "range"), ("main", 100, "range"), ("main", -1, "range"), ("main", 0, "null"), ("main", 0, "assert"),
                ("main", 0, "none"), ("main", 0, ""), ("use", 3, "range"), ("", 0, "range"), ("use", -2, "null"),
            ):
                with self.assertRaises(NoSite) as caught:
                    verdict(analysis, *site)
                error = caught.exception
                self.assertEqual((error.function, error.place, error.fault), site)

    def test_no_place(self):
        for analysis in self.analyses:
            end = len(list_statements(analysis.program[3][-1][4]))
            for name, place in (("none", 0), ("", 0), ("leaf", 0), ("g", 0), ("main", end), ("main", -1), ("main", 99)):
                self.no_place(place, visited, analysis, name, place)
                self.no_place(place, holds, analysis, name, place, ("flag", True))
                # It goes before what is wrong in the expression.
                self.no_place(place, holds, analysis, name, place, ("name", "nothing"))
                self.no_place(place, holds, analysis, name, place, ("num", 3))
            for name in ("none", "", "leaf", "g"):
                self.no_place(None, returns, analysis, name)
            self.assertIsNotNone(returns(analysis, "main"))

    def test_places_of_empty_functions(self):
        self.no_place(0, visited, self.analyses[0], "empty", 0)
        self.assertEqual(returns(self.analyses[0], "empty"), ("can", 4))

    def test_expressions_that_are_refused(self):
        for analysis in self.analyses[:2]:
            for text, name in (
                ("nothing", "nothing"), ("(nothing < other)", "nothing"), ("(n < other)", "other"), ("(k == 1)", "k"),
                ("(n and other)", "other"), ("(deep == 1)", "deep"), ("(leaf same held)", "leaf"),
            ):
                with self.assertRaises(Unknown) as caught:
                    holds(analysis, "main", 0, read_expression(text))
                self.assertEqual(caught.exception.name, name)
            for text in ("n", "3", "null", "held", "(n + 1)", "(n < f)", "(f and n)", "(not n)", "(f same held)", "(f == true)", "(n < null)"):
                with self.assertRaises(WrongKind) as caught:
                    holds(analysis, "main", 7, read_expression(text))
                self.assertEqual((caught.exception.function, caught.exception.place), ("main", 7))

    def test_names_of_another_function(self):
        analysis = self.analyses[0]
        self.assertEqual(holds(analysis, "deep", 0, read_expression("(k == g)")), ("fails", 8))
        with self.assertRaises(Unknown):
            holds(analysis, "deep", 0, read_expression("(n == g)"))


class TestNeverBy(unittest.TestCase):
    def test_rows_of_analyses(self):
        for text in (CALLS, LOOP, RECURSION):
            program = read_program(text)
            analysis = analyse(program, limit=600)
            wanted = [site for site, answer in report(analysis) if answer == NEVER]
            self.assertGreater(len(wanted), 1)
            self.assertEqual(never_by(program, analysis.rows), wanted)
            self.assertEqual(never_by(program, tuple(reversed(analysis.rows))), wanted)
            by_first = never_by(program, analysis.first)
            self.assertLessEqual(set(by_first), set(wanted))
            self.assertEqual(by_first, [site for site in sites(program) if site in by_first])

    def test_programs_by_chance(self):
        for seed in range(30):
            program = CarefulMaker(seed).program()
            analysis = analyse(program)
            if not analysis.cut:
                never = never_by(program, analysis.rows)
                self.assertEqual(never, [site for site, answer in report(analysis) if answer == NEVER])
                outcome, _, _ = run(program, [3, 1, 4, 1, 5], 200)
                self.assertNotIn(outcome[1:], never)

    def test_rows_that_are_not_accepted(self):
        program = read_program(CALLS)
        rows = analyse(program).rows
        for wrong in (
            (), rows[1:], rows[:-1], (*rows, rows[0]), list(rows), None, True, 0, "", "main", (1,), (None,), rows[0], ((),),
            (("main",) * 5,), (*rows, ("main", ((), ()), 0, ((), ()), None)),
        ):
            self.assertIs(accepts(program, wrong), False)
            with self.assertRaises(NotAccepted):
                never_by(program, wrong)

    def test_a_certificate_with_more_rows(self):
        """A row to which nothing leads takes away what never happens."""
        program = read_program("def f(k: 0..1): 0..1\n  return k\nend\ndef g(k: 0..1): 0..1\n  return (k + 1)\nend\ndef main()\nend\n")
        rows = analyse(program).rows
        self.assertEqual(never_by(program, rows), [("f", 0, "range"), ("g", 0, "range")])
        more = (*rows, ("g", ((1,), ()), 0, ((1,), ()), ((0,),)))
        self.assertEqual(never_by(program, more), [("f", 0, "range")])


if __name__ == "__main__":
    unittest.main()
