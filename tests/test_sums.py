"""Sums, limits, cases and distances, on which hunting rests."""

import itertools
import random
import unittest

from neverhappens.distances import Distances
from neverhappens.layouts import Layout
from neverhappens.limits import NO_COLUMNS, Limits
from neverhappens.parting import TooManyCases, all_given, cases_of
from neverhappens.reading import read_program
from neverhappens.sums import column_sum, cut_sum, is_number, is_sharp, minus, number_sum, plus, reach, times
from neverhappens.zones import has_point, range_box
from tests.making import CarefulMaker

SPAN = range(-3, 5)


def value_of(total, point):
    return total[1] + sum(factor * point[column - 1] for column, factor in total[0])


def chance_sum(chance, columns):
    found = number_sum(chance.randrange(-9, 10))
    for column in range(1, columns + 1):
        found = plus(found, times(column_sum(column), chance.choice([0, 0, 1, -1, 1, -1, 2, -2, 3])))
    return found


class TestSums(unittest.TestCase):
    def test_calculating(self):
        chance = random.Random(1)
        for _ in range(300):
            one, other, number = chance_sum(chance, 3), chance_sum(chance, 3), chance.randrange(-4, 5)
            for point in itertools.product((-2, 0, 3), repeat=3):
                first, second = value_of(one, point), value_of(other, point)
                self.assertEqual(value_of(plus(one, other), point), first + second)
                self.assertEqual(value_of(minus(one, other), point), first - second)
                self.assertEqual(value_of(times(one, number), point), number * first)
            self.assertNotIn(0, [factor for _, factor in plus(one, other)[0]])
            self.assertEqual(minus(one, one), number_sum(0))
            self.assertEqual(is_number(one), one == number_sum(one[1]))

    def test_cuts(self):
        """No point that fits is lost, and none is left that does not fit if the sum is sharp."""
        chance = random.Random(2)
        sharp = 0
        for _ in range(400):
            box = range_box(tuple(sorted((chance.choice(SPAN), chance.choice(SPAN))) for _ in range(3)))
            total, most = chance_sum(chance, 3), chance.randrange(-12, 13)
            points = [point for point in itertools.product(SPAN, repeat=3) if has_point(box, point)]
            left = [point for point in points if value_of(total, point) <= most]
            cut = cut_sum(box, total, most)
            kept = [point for point in points if has_point(cut, point)]
            self.assertLessEqual(set(left), set(kept))
            if is_sharp(total):
                self.assertEqual(kept, left)
                self.assertEqual(cut is None, left == [])
                sharp += 1
            low, high = reach(box, total)
            self.assertTrue(all(low <= value_of(total, point) <= high for point in points))
        self.assertGreater(sharp, 80)

    def test_differences_with_factors(self):
        box = range_box(((0, 9), (0, 9)))
        total = minus(times(column_sum(1), 3), times(column_sum(2), 3))
        self.assertEqual(cut_sum(box, total, 7), cut_sum(box, minus(column_sum(1), column_sum(2)), 2))
        self.assertEqual(cut_sum(box, times(total, -1), -7), cut_sum(box, minus(column_sum(2), column_sum(1)), -3))


class TestLimits(unittest.TestCase):
    def limits(self, *ranges):
        found, totals = Limits(NO_COLUMNS, (), (), ()), []
        for low, high in ranges:
            found, total = found.with_column_read(low, high)
            totals.append(total)
        return found, totals

    def test_inputs_of_columns(self):
        found, (one, other) = self.limits((5, 100), (-7, 20))
        found = found.with_read(3).within(one, 40, 40).within(other, -7, -7)
        self.assertEqual(found.some_inputs(10), ([35, 0, 3], 1))
        self.assertIsNone(found.at_most(one, 39))
        self.assertEqual(found.outside(one, 40, 40), [])
        self.assertEqual(len(found.outside(one, 41, 50)), 1)
        self.assertEqual(len(self.limits((0, 9))[0].outside(one, 3, 5)), 2)

    def test_loose_sums_and_products(self):
        found, (one, two, three) = self.limits((0, 50), (0, 50), (0, 50))
        total = plus(plus(one, times(two, 7)), times(three, 11))
        cut = found.within(total, 777, 777)
        self.assertIs(cut.is_exact(), False)
        (x, y, z), _ = cut.some_inputs(400)
        self.assertEqual(x + 7 * y + 11 * z, 777)
        behind, product = found.with_product(one, plus(two, number_sum(1)))
        (x, y, _), _ = behind.within(product, 17 * 19, 17 * 19).some_inputs(400)
        self.assertEqual(x * (y + 1), 17 * 19)
        self.assertIsNone(behind.at_least(product, 50 * 51 + 1))
        inputs, steps = behind.within(product, 53 * 47, 53 * 47).some_inputs(60)
        self.assertIsNone(inputs)
        self.assertLessEqual(steps, 60)
        self.assertEqual(found.with_product(number_sum(3), one)[1], times(one, 3))
        self.assertEqual(found.with_product(one, number_sum(-2))[1], times(one, -2))


class TestCases(unittest.TestCase):
    def cases(self, word, many, columns):
        """The cases of many comparisons of each column with a number of its own."""
        limits, values = Limits(NO_COLUMNS, (), (), ()), {}
        test = ("flag", True)
        for name in "abcdef"[:columns]:
            limits, values[name] = limits.with_column_read(0, 10 ** 9)
            for at in range(many):
                test = ("and", test, (word, ("name", name), ("num", 100 * at + 7)))
        return cases_of(test, values, limits)

    def test_what_does_not_matter_is_not_parted(self):
        self.assertEqual([truth for truth, _ in self.cases("<", 3, 2)].count(True), 1)
        self.assertEqual(len(self.cases("<", 5, 2)), 3)
        self.assertEqual(len(self.cases("!=", 5, 1)), 11)
        self.assertEqual(len(self.cases("==", 1, 2)), 5)

    def test_too_many_cases(self):
        self.assertEqual([truth for truth, _ in self.cases("!=", 4, 5)].count(True), 5 ** 5)
        with self.assertRaises(TooManyCases):
            self.cases("!=", 6, 6)
        params = tuple((f"f{at}", ("flag",)) for at in range(14))
        arguments = tuple(("<", ("name", f"x{at}"), ("num", 5)) for at in range(14))
        limits, values = Limits(NO_COLUMNS, (), (), ()), {}
        for at in range(14):
            limits, values[f"x{at}"] = limits.with_column_read(0, 10 ** 9)
        self.assertEqual(len(all_given(params[:10], arguments[:10], values, limits)), 2 ** 10)
        with self.assertRaises(TooManyCases):
            all_given(params, arguments, values, limits)


class TestDistances(unittest.TestCase):
    def test_by_hand(self):
        program = read_program(
            "def f(): flag\n  var g: flag\n  if g\n    return g\n  end\n  g = f()\n  g = f()\nend\ndef none()\nend\n"
            "def main()\n  var g: flag\n  while g\n    g = f()\n    assert g\n  end\n  none()\n  g = true\n  free()\nend\n".replace("  free()\n", ""))
        layouts = {function[0]: Layout(program, function[0]) for function in program[3]}
        found = Distances(layouts, ("main", 2))
        self.assertEqual([found.ends[("f", place)] for place in range(5)], [2, 1, 6, 3, 0])
        self.assertEqual([found.ends[("main", place)] for place in range(6)], [3, 7, 4, 2, 1, 0])
        self.assertEqual([found.ways.get(("main", place)) for place in range(6)], [4, 3, 0, None, None, None])
        self.assertEqual(found.of_frames((("main", 1, {}), ("f", 0, {}))), 2)
        self.assertEqual(found.of_frames((("main", 1, {}), ("f", 2, {}))), 6)
        self.assertIsNone(found.of_frames((("main", 3, {}), ("none", 0, {}))))
        self.assertIsNone(found.of_frames(()))
        # From within f the next end of a frame leads to the second call, not to the target.
        self.assertEqual(found.of_frames((("main", 1, {}), ("f", 2, {}), ("f", 1, {}))), 4)

    def test_programs_by_chance(self):
        """Each number is that of one statement more than the least of what follows it."""
        for seed in range(20):
            program = CarefulMaker(seed).program()
            layouts = {function[0]: Layout(program, function[0]) for function in program[3]}
            found = Distances(layouts, ("main", 0))
            self.assertEqual(found.ways[("main", 0)], 0)
            for (name, place), number in found.ends.items():
                layout = layouts[name]
                if place == layout.exit:
                    self.assertEqual(number, 0)
                    continue
                statement, after, other = layout.graph[place]
                behind = [found.ends[(name, at)] for at in (after, other) if (name, at) in found.ends]
                called = found.ends[(statement[2], 0)] if statement[0] == "call" else 0
                self.assertEqual(number, 1 + called + min(behind))

    def test_ways_by_chance(self):
        """A call leads to the target within the called frame, or behind it if this frame ends."""
        within = 0
        for seed in range(20):
            program = CarefulMaker(seed).program()
            layouts = {function[0]: Layout(program, function[0]) for function in program[3]}
            for target in [(name, layout.exit // 2) for name, layout in layouts.items()]:
                found = Distances(layouts, target)
                for name, place in [(name, at) for name in layouts for at in range(layouts[name].exit)]:
                    statement, after, other = layouts[name].graph[place]
                    behind = [found.ways.get((name, after)), found.ways.get((name, other))]
                    if statement[0] == "call":
                        begin = (statement[2], 0)
                        ends = found.ends.get(begin)
                        behind = [None if None in (ends, behind[0]) else ends + behind[0], found.ways.get(begin)]
                        within += behind[1] is not None
                    numbers = [1 + number for number in behind if number is not None]
                    least = 0 if (name, place) == target else min(numbers, default=None)
                    self.assertEqual(found.ways.get((name, place)), least)
        self.assertGreater(within, 20)


if __name__ == "__main__":
    unittest.main()
