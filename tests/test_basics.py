"""[2]: what an INTEGER, a COUNT and a NUMBER is."""

import unittest

from helpers import not_integers, not_numbers
from soughtrows.basics import is_count, is_integer
from soughtrows.ratios import Ratio, is_number


class Basics(unittest.TestCase):
    def test_integers(self):
        for value in [0, 1, -1, 7, 10 ** 40, -10 ** 40]:
            self.assertIs(is_integer(value), True)
            self.assertIs(is_number(value), True)
            self.assertIs(is_count(value), value >= 0)

    def test_no_integers(self):
        for value in not_integers() + ["7", [0], [[1]], {"a": 1}, (1, 2)]:
            self.assertIs(is_integer(value), False)
            self.assertIs(is_count(value), False)

    def test_true_and_false_are_none(self):
        for value in [True, False]:
            self.assertEqual([is_integer(value), is_count(value), is_number(value)], [False] * 3)

    def test_ratios_are_numbers_alone(self):
        for value in [Ratio(0), Ratio(1), Ratio(-3), Ratio(1, 2)]:
            self.assertEqual([is_integer(value), is_count(value), is_number(value)], [False, False, True])

    def test_no_numbers(self):
        for value in not_numbers() + ["7", "1/2", [Ratio(1)], (Ratio(1), 1)]:
            self.assertIs(is_number(value), False)

    def test_by_name(self):
        self.assertEqual([is_integer(value=3), is_count(value=-3), is_number(value=3)], [True, False, True])


if __name__ == "__main__":
    unittest.main()
