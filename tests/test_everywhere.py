"""Points 1, 2, 3 and 21: what all functions keep."""

import unittest

from neverhappens.analysis import analyse
from neverhappens.boxes import add_columns, free_column, pick_columns, shift_column, tie_boxes
from neverhappens.calls import back, enter
from neverhappens.certificates import certificate_text, read_certificate
from neverhappens.changes import replace_function, revise
from neverhappens.checker import accepts
from neverhappens.cuts import assign, assume, at_least, at_most, equal_to
from neverhappens.describing import rows_of_run
from neverhappens.desk import Desk, replay
from neverhappens.errors import TooLong
from neverhappens.forms import form_of, range_of_form
from neverhappens.graphs import heads, nodes
from neverhappens.hunting import hunt, is_simple
from neverhappens.keys import is_key, number_key
from neverhappens.kinds import is_discrete, is_large, is_small, kind_values, start_value
from neverhappens.landmarks import is_head, landmarks, round_box
from neverhappens.layouts import Layout
from neverhappens.least import entry_visits, frame_visits
from neverhappens.names import check_program
from neverhappens.plain import Machine, run
from neverhappens.printing import expression_text, function_text, kind_text, program_text
from neverhappens.reading import read_expression, read_function, read_program
from neverhappens.rules import Rules
from neverhappens.sites import is_plain, sites
from neverhappens.steps import arrive, step
from neverhappens.tables import first_table, lower, sort_rows
from neverhappens.values import evaluate
from neverhappens.verdicts import holds, never_by, report, returns, verdict, visited
from neverhappens.walking import Walker, walk
from neverhappens.witnesses import find_witness, witness_inputs, witness_rows, witness_visits
from neverhappens.zones import bound, close, greatest_point, is_inside, join_boxes, least_point
from neverhappens.zones import meet_boxes, range_box, range_of
from tests.making import CarefulMaker, NumberMaker, RightMaker, SimpleMaker, TinyMaker
from tests.samples import A, DOOR, DOOR_TEXT, EXPRESSIONS

# Beyond each of the limits: names, kinds, arrays, functions, parameters, statements, nesting.
LONG = "a" * 40


def great_program():
    """A program beyond the limits."""
    records = tuple(
        ("r" + str(at), tuple((LONG + str(field), ("num", 0, 7)) for field in range(6)))
        for at in range(6)
    )
    arrays = tuple(("a" + str(at), 100, -(10 ** 12), 10 ** 12) for at in range(6))
    shared = tuple(("g" + str(at), ("num", -(10 ** 12), 10 ** 12)) for at in range(20))
    sum_of_all = ("num", 10 ** 11)
    for at in range(20):
        sum_of_all = ("+", ("name", "g" + str(at)), sum_of_all)
    params = tuple(("p" + str(at), ("num", 0, 10 ** 12)) for at in range(6))
    helpers = tuple(("f" + str(at), params, shared[3][1], (), ()) for at in range(12))
    body = (("set", "g1", sum_of_all),)
    for _ in range(15):
        body = (("while", ("<", ("name", "g1"), ("num", 10 ** 11)), body),)
    arguments = tuple(("num", 10 ** 12) for _ in range(6))
    body += tuple(("set", "g2", ("num", at)) for at in range(100))
    body += (("put", "a0", ("num", 99), ("name", "g2")), ("call", "g3", "f7", arguments))
    return (records, arrays, shared, (*helpers, ("main", (), None, (), body)))


def is_plain_value(value):
    """True for strings, integers, True, False, None and tuples of these."""
    if isinstance(value, tuple):
        return all(map(is_plain_value, value))
    return value is None or type(value) in (str, int, bool)


def rows_by_rules(rules, most):
    """The first rows to which the rules lead from the start, without any joins."""
    rows = [rules.start()]
    for row in rows:
        found = list(rules.moves(row))
        for other in list(rows):
            found += [*rules.backs(row, other), *rules.backs(other, row)]
        rows.extend(led for led in found if led not in rows and len(rows) < most)
    return rows


class TestArguments(unittest.TestCase):
    def test_lists_and_dicts_are_not_changed(self):
        inputs = [5, 6, 7]
        for made in (Machine, Walker):
            going = made(DOOR, inputs)
            for _ in range(10):
                going.visit()
        run(DOOR, inputs, 10)
        walk(DOOR, inputs, 10)
        self.assertEqual(inputs, [5, 6, 7])
        values = {"a": 3, "b": 4, "c": True}
        for expression in (("+", A, ("name", "b")), ("not", ("name", "c"))):
            evaluate(expression, values)
        self.assertEqual(values, {"a": 3, "b": 4, "c": True})
        self.assertIs(values["c"], True)

    def test_known_values_are_not_changed(self):
        known = {"k": 3, "f": True}
        box = range_box(((0, 9),))
        test = read_expression("((f and (x < k)) or (not (x == (k * x))))")
        for want in (True, False):
            assume(test, want, known, ("x",), box)
        form_of(read_expression("(k - (x * k))"), known, ("x",), box)
        self.assertEqual(repr(known), repr({"k": 3, "f": True}))

    def test_layouts_and_rules_are_not_changed(self):
        for seed in range(20):
            program = CarefulMaker(seed).program()
            rules = Rules(program)
            before = {name: dict(vars(layout)) for name, layout in rules.layouts.items()}
            kinds = {name: dict(layout.kinds) for name, layout in rules.layouts.items()}
            for row in rows_by_rules(rules, 30):
                rules.faults(row)
            self.assertEqual(before, {name: vars(layout) for name, layout in rules.layouts.items()})
            self.assertEqual(kinds, {name: layout.kinds for name, layout in rules.layouts.items()})

    def test_rules_are_not_changed_by_tables(self):
        for seed in range(20):
            rules = Rules(CarefulMaker(seed).program())
            before = {name: repr(vars(layout)) for name, layout in rules.layouts.items()}
            table = first_table(rules, 60, (3, 1))
            if table is not None:
                lower(rules, table)
            self.assertEqual(list(vars(rules)), ["program", "layouts"])
            self.assertEqual(before, {name: repr(vars(layout)) for name, layout in rules.layouts.items()})

    def test_rows_that_are_changed_afterwards(self):
        inputs = [5, 6, 7]
        program = CarefulMaker(3).program()
        rows = rows_of_run(program, inputs, 20)
        before = list(rows)
        rows.clear()
        self.assertEqual(inputs, [5, 6, 7])
        self.assertEqual(rows_of_run(program, inputs, 20), before)

    def test_values_that_are_changed_afterwards(self):
        values = {"a": 3}
        self.assertEqual(evaluate(A, values), 3)
        values["a"] = 4
        self.assertEqual(evaluate(A, values), 4)


class TestPlainValues(unittest.TestCase):
    def test_results(self):
        found = [read_program(DOOR_TEXT), read_program("")]
        found += [read_function(function_text(function)) for function in DOOR[3]]
        found += [read_expression(text) for _, text in EXPRESSIONS]
        found += [kind_values(("num", 2, 5)), kind_values(("flag",))]
        found += [start_value(("num", 2, 5)), start_value(("flag",)), start_value(("ref", "r"))]
        for seed in range(40):
            program = RightMaker(seed).program()
            for function in program[3]:
                found += [nodes(function), heads(function)]
                layout = Layout(program, function[0])
                found += [value for name, value in vars(layout).items() if name != "kinds"]
                found += list(layout.kinds.items())
            for made in (Machine, Walker):
                going = made(program, [4, 5, 6])
                for _ in range(30):
                    found += [going.outcome(), going.state(), going.visits, going.reads]
                    going.visit()
            found += [run(program, [], 30), walk(program, [], 30)]
        for value in found:
            self.assertTrue(is_plain_value(value), value)

    def test_results_for_boxes(self):
        box = range_box(((0, 9), (-3, 3)))
        for found in (
            box, close(box), bound(box, 1, 2, 4), join_boxes(box, bound(box, 1, 0, 4)), meet_boxes(box, box),
            least_point(box), greatest_point(box), range_of(box, 1), is_inside(box, box),
            add_columns(box, ((0, 3),)), pick_columns(box, (2, 1, 1)), free_column(box, 1, 0, 3),
            shift_column(box, 2, 0, 3), tie_boxes(box, box, (1, 2)), form_of(A, {}, ("a", "b"), box),
            form_of(("*", A, A), {}, ("a", "b"), box), range_of_form(((1, -1), 0, 3), box),
            at_most(box, ((1, -1), 0, 3), 2), at_least(box, ((2, 0), 0, 3), 2), equal_to(box, ((2, 0), 0, 3), 2),
            assign(box, 1, ((1, 0), 2, 3), 0, 9), assign(box, 1, ((1, 1), 2, 3), 0, 9),
            assume(("<", A, ("num", 3)), True, {}, ("a", "b"), box),
            round_box(box, ((0, 9), (-3, 3)), (-1, 0, 1)), round_box(box, ((0, 9), (-3, 3)), ()),
        ):
            self.assertTrue(is_plain_value(found), found)
            self.assertIsNotNone(found)

    def test_results_of_rules(self):
        for seed in range(40):
            program = (CarefulMaker if seed % 2 else NumberMaker)(seed).program()
            self.assertTrue(all(map(is_plain_value, rows_of_run(program, [3, 4], 30))))
            rules = Rules(program)
            for row in rows_by_rules(rules, 25):
                self.assertTrue(is_plain_value(row), row)
                self.check_row(rules, row)

    def check_row(self, rules, row):
        """The row is one, and what the functions tell of it are plain values of the told forms."""
        function, entry, place, key, box = row
        layout = rules.layouts[function]
        fixed = len(entry[1])
        last = place == layout.exit
        kinds = [layout.kinds.get(name, layout.result)
                 for name in (layout.exit_discrete if last else layout.discrete)]
        self.assertIs(is_key(rules.program, tuple(kinds), key, fixed), True)
        ranges = layout.exit_ranges if last else layout.ranges
        self.assertEqual(close(box), box)
        self.assertTrue(is_inside(box, range_box(ranges)))
        marks = landmarks(layout)
        self.assertTrue(is_inside(box, round_box(box, ranges, marks)))
        found = [rules.faults(row), rules.moves(row), marks, is_head(layout, place)]
        if not last:
            found.append(arrive(layout, fixed, layout.exit, key, box))
            found.append(number_key(rules.program, tuple(kinds), *key, tuple(range(fixed))))
            called = layout.graph[place][0]
            if called[0] == "call":
                found.append(enter(layout, rules.layouts[called[2]], place, key, box))
            else:
                found.append(step(layout, fixed, place, key, box))
        self.assertTrue(is_plain_value(tuple(found)))
        for told in (found[0], found[1]):
            self.assertIs(type(told), tuple)

    def test_results_of_tables(self):
        for seed in range(30):
            program = (CarefulMaker if seed % 2 else NumberMaker)(seed).program()
            analysis = analyse(program, limit=100)
            revised = revise(analysis, program[3][0])
            rules = Rules(program)
            text = certificate_text(program, analysis.rows)
            self.assertIs(type(text), str)
            for found in (
                sort_rows(program, analysis.rows), lower(rules, analysis.rows), analysis.first, analysis.rows,
                analysis.kept, revised.kept, revised.rows, revised.first, read_certificate(program, text),
            ):
                self.assertIs(type(found), tuple)
                self.assertTrue(is_plain_value(found))
            for found in (
                first_table(rules, 100, ()), replace_function(program, program[3][-1]), analysis.cut, revised.cut,
                accepts(program, analysis.rows), analysis.limit, analysis.rounds, analysis.program, revised.program,
            ):
                self.assertTrue(is_plain_value(found))

    def test_results_about_all_runs(self):
        for maker in (TinyMaker, SimpleMaker, CarefulMaker):
            for seed in range(5):
                program = maker(seed).program()
                analysis = analyse(program)
                found = [is_plain(program), is_simple(program), *never_by(program, analysis.rows)]
                for site, answer in report(analysis):
                    found += [site, answer, verdict(analysis, *site), visited(analysis, *site[:2]), returns(analysis, site[0])]
                    found.append(holds(analysis, *site[:2], ("flag", False)))
                    found += self.results_of_a_witness(program, find_witness(analysis, *site))
                    answer = hunt(program, *site, visits=6)
                    self.assertIs(type(answer), tuple)
                    if answer[0] == "run":
                        self.assertEqual((type(answer[1]), type(answer[2])), (list, int))
                        found += answer[1]
                if is_plain(program):
                    for numbers in (frame_visits(analysis), entry_visits(analysis)):
                        self.assertIs(type(numbers), dict)
                        found += list(numbers.items())
                for asked in (report(analysis), sites(program), never_by(program, analysis.rows)):
                    self.assertIs(type(asked), list)
                for value in found:
                    self.assertTrue(is_plain_value(value), value)

    def results_of_a_witness(self, program, witness):
        if witness is None:
            return [None]
        rows, inputs = witness_rows(program, witness), witness_inputs(program, witness)
        self.assertEqual((type(witness), type(rows), type(inputs)), (tuple, list, list))
        return [witness, *rows, *inputs, witness_visits(program, witness)]

    def test_results_that_are_changed_afterwards(self):
        """Lists and dicts that were returned are not those that later answers are made of."""
        analysis = analyse(TinyMaker(3).program(), limit=600)
        program = analysis.program
        witness = (("start",), ("step", 0, 1))
        for asked in (
            lambda: sites(program), lambda: report(analysis), lambda: never_by(program, analysis.rows),
            lambda: frame_visits(analysis), lambda: entry_visits(analysis), lambda: witness_rows(program, witness),
            lambda: witness_inputs(program, witness), lambda: list(analysis),
        ):
            found = asked()
            before = repr(found)
            found.clear()
            self.assertEqual(repr(asked()), before)

    def test_tuples_in_each_state(self):
        for made in (Machine, Walker):
            state = made(DOOR, []).state()
            self.assertEqual([type(part) for part in state], [tuple] * 4)


class TestLimits(unittest.TestCase):
    def test_no_function_checks_them(self):
        program = great_program()
        self.assertIsNone(check_program(program))
        text = program_text(program)
        self.assertEqual(read_program(text), program)
        main = program[3][-1]
        self.assertEqual(len(nodes(main)), 118)
        self.assertEqual(heads(main), tuple(range(15)))
        self.assertEqual(Layout(program, "main").exit, 118)
        self.assertEqual(len(Layout(program, "f7").large), 26)
        for go in (run, walk):
            self.assertEqual(go(program, [0] * 5000, 10 ** 6), (("end",), 133, 0))
        for kind in (("num", -10 ** 30, 10 ** 30), ("num", 10 ** 30, 10 ** 30 + 7)):
            self.assertEqual(kind_text(kind), str(kind[1]) + ".." + str(kind[2]))
            self.assertIs(is_large(kind), kind[1] < 0)
            self.assertIs(is_small(kind), kind[1] > 0)
            self.assertIs(is_discrete(kind), kind[1] > 0)
        self.assertEqual(kind_values(("num", 10 ** 30, 10 ** 30 + 1)), (10 ** 30, 10 ** 30 + 1))

    def test_rules_of_a_great_program(self):
        program = great_program()
        rules = Rules(program)
        row = rules.start()
        self.assertEqual(row[2:4], (0, ((), ())))
        self.assertEqual(row[4], range_box(((0, 0),) * 40))
        call = ("main", row[1], 117, row[3], range_box(rules.layouts["main"].ranges))
        (begun,) = rules.moves(call)
        self.assertEqual((begun[0], begun[2], len(begun[4])), ("f7", 0, 48))
        (ended,) = rules.backs(call, begun)
        self.assertEqual((ended[2], len(ended[4])), (118, 41))
        self.assertEqual(len(rows_of_run(program, [0] * 5000, 10 ** 6)), 133)
        self.assertEqual(len(landmarks(rules.layouts["main"])), 203 + 6 + 6)

    def test_tables_beyond_the_limits(self):
        body = "".join(f"  k = {at}\n" for at in range(3)) * 250
        program = read_program(f"def main()\n  var k: 0..7\n  var f: flag\n  f = input\n{body}end\n")
        analysis = analyse(program, limit=5000, rounds=6, picks=tuple(range(200)))
        self.assertEqual((len(analysis), analysis.cut), (1502, False))
        self.assertIs(accepts(program, analysis.rows), True)
        text = certificate_text(program, analysis.rows)
        self.assertGreater(len(text), 20000)
        self.assertEqual(read_certificate(program, text), analysis.rows)

    def test_questions_beyond_the_limits(self):
        text = "def main()\n  var k: 0..7\n  while true\n    k = input\n    assert (k != 7)\n  end\nend\n"
        program = read_program(text)
        analysis = analyse(program, limit=3000, rounds=9)
        self.assertEqual(verdict(analysis, "main", 2, "assert"), ("can", 3))
        test = ("flag", True)
        for _ in range(100):
            test = ("not", ("and", test, ("flag", True)))
        self.assertEqual(holds(analysis, "main", 1, test), ("always",))
        answer = hunt(program, "main", 2, "assert", visits=500, tries=20000)
        self.assertEqual(run(program, *answer[1:])[0], ("fault", "main", 2, "assert"))
        lines = [("start",)]
        for at in range(1000):
            lines += [("step", 3 * at, None), ("step", 3 * at + 1, 2), ("step", 3 * at + 2, None)]
        witness = tuple(lines)
        self.assertEqual(witness_visits(program, witness), 3000)
        self.assertEqual(witness_inputs(program, witness), [2] * 1000)
        with self.assertRaises(TooLong):
            witness_inputs(program, witness, most=999)
        desk = Desk(limit=3000, rounds=9)
        for at in range(70):
            desk.load(text)
        self.assertEqual(len(replay(desk.journal(), limit=3000, rounds=9)), 70)

    def test_names_and_numbers_beyond_the_limits(self):
        far = 10 ** 700
        box = range_box(((-far, far),) * 30)
        self.assertEqual(close(box), box)
        self.assertEqual(bound(box, 30, 29, -2 * far), meet_boxes(box, bound(box, 30, 29, -2 * far)))
        names = tuple("x" + str(at) for at in range(30))
        expression = ("num", far)
        for name in names:
            expression = ("+", expression, ("name", name))
        self.assertEqual(form_of(expression, {}, names, box), ((1,) * 30, far, far))
        self.assertEqual(range_of_form(((1,) * 30, far, far), box), (-29 * far, 31 * far))
        deep = ("<", ("name", "x0"), ("num", 0))
        for _ in range(100):
            deep = ("not", deep)
        self.assertEqual(assume(deep, True, {}, names, box), bound(box, 1, 0, -1))

    def test_expressions_that_are_deep(self):
        expression = A
        for _ in range(100):
            expression = ("+", expression, ("*", ("num", 1), A))
        text = expression_text(expression)
        self.assertEqual(read_expression(text), expression)
        self.assertEqual(evaluate(expression, {"a": 2}), 202)

    def test_many_inputs_and_visits(self):
        program = read_program("global a: 0..9\ndef main()\n  while true\n    a = input\n  end\nend\n")
        for go in (run, walk):
            self.assertEqual(go(program, [3] * 6000, 20000), (("going", "main", 0), 20000, 10000))


class TestTexts(unittest.TestCase):
    def test_characters(self):
        allowed = set(map(chr, range(32, 127))) - {chr(37)} | {"\n"}
        for seed in range(40):
            program = RightMaker(seed).program()
            self.assertLessEqual(set(program_text(program)), allowed)
            self.assertLessEqual(set(certificate_text(program, analyse(program).rows)), allowed)


if __name__ == "__main__":
    unittest.main()
