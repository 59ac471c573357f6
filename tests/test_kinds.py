"""Points 4, 5 and 6."""

import unittest

from neverhappens.kinds import is_discrete, is_large, is_small, kind_values, start_value

FLAG = ("flag",)
REF = ("ref", "door")


class TestKinds(unittest.TestCase):
    def check(self, kind, small, large, discrete):
        self.assertIs(is_small(kind), small, kind)
        self.assertIs(is_large(kind), large, kind)
        self.assertIs(is_discrete(kind), discrete, kind)

    def test_flag(self):
        self.check(FLAG, True, False, True)

    def test_reference(self):
        self.check(REF, False, False, True)

    def test_number_with_eight_values_is_small(self):
        for low in (-10 ** 9, -8, -7, -3, 0, 1, 10 ** 9 - 7):
            self.check(("num", low, low + 7), True, False, True)

    def test_number_with_nine_values_is_large(self):
        for low in (-10 ** 9, -9, -8, -4, 0, 1, 10 ** 9 - 8):
            self.check(("num", low, low + 8), False, True, False)

    def test_number_with_one_value(self):
        self.check(("num", 5, 5), True, False, True)

    def test_widest_number(self):
        self.check(("num", -10 ** 9, 10 ** 9), False, True, False)


class TestValues(unittest.TestCase):
    def test_values_of_a_flag(self):
        self.assertEqual(repr(kind_values(FLAG)), "(False, True)")

    def test_values_of_numbers(self):
        self.assertEqual(kind_values(("num", 0, 7)), (0, 1, 2, 3, 4, 5, 6, 7))
        self.assertEqual(kind_values(("num", -2, 1)), (-2, -1, 0, 1))
        self.assertEqual(kind_values(("num", 9, 9)), (9,))
        self.assertEqual(repr(kind_values(("num", 0, 1))), "(0, 1)")

    def test_start_values(self):
        self.assertIs(start_value(FLAG), False)
        self.assertIs(start_value(REF), None)
        self.assertEqual(repr(start_value(("num", -3, 9))), "0")
        self.assertEqual(start_value(("num", 0, 9)), 0)
        self.assertEqual(start_value(("num", -9, 0)), 0)
        self.assertEqual(start_value(("num", 0, 0)), 0)
        self.assertEqual(start_value(("num", 3, 9)), 3)
        self.assertEqual(start_value(("num", -9, -3)), -3)
        self.assertEqual(start_value(("num", 10 ** 9, 10 ** 9)), 10 ** 9)


if __name__ == "__main__":
    unittest.main()
