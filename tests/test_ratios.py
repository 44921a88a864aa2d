"""[11]: Ratio."""

import itertools
import unittest
from fractions import Fraction

from helpers import check_bare, check_value, not_integers, not_lists, not_numbers, unchanged
from soughtrows.errors import DividedByZero, InvalidNumber
from soughtrows.ratios import Ratio

MANY = [Ratio(0), Ratio(1), Ratio(-1), Ratio(1, 2), Ratio(-1, 2), Ratio(7, 3), Ratio(-22, 7), Ratio(12), Ratio(-5),
        Ratio(10 ** 50 + 1, 3 ** 90), Ratio(-(10 ** 50), 7), Ratio(10 ** 60)]
WHOLE = [0, 1, -1, 2, -3, 12, 10 ** 45, -(10 ** 45) - 1]


def worth(number):
    return Fraction(number) if isinstance(number, int) else Fraction(number.top, number.bottom)


def made(fraction):
    return Ratio(fraction.numerator, fraction.denominator)


class Terms(unittest.TestCase):
    def check(self, ratio, top, bottom):
        self.assertEqual((ratio.top, ratio.bottom), (top, bottom))
        self.assertEqual((type(ratio.top), type(ratio.bottom)), (int, int))

    def test_lowest_terms(self):
        self.check(Ratio(4, 6), 2, 3)
        self.check(Ratio(4, -6), -2, 3)
        self.check(Ratio(-4, -6), 2, 3)
        self.check(Ratio(-4, 6), -2, 3)
        self.check(Ratio(6, 3), 2, 1)
        self.check(Ratio(0, -9), 0, 1)
        self.check(Ratio(0), 0, 1)
        self.check(Ratio(-7), -7, 1)
        self.check(Ratio(5, -1), -5, 1)

    def test_many_digits(self):
        self.check(Ratio(6 * 10 ** 600, -(9 * 10 ** 500)), -2 * 10 ** 100, 3)
        self.check(Ratio(2 ** 1000 * 3, 2 ** 1000 * 5), 3, 5)
        self.check(Ratio(10 ** 700 + 1, 10 ** 700), 10 ** 700 + 1, 10 ** 700)

    def test_by_name(self):
        self.check(Ratio(top=3, bottom=-6), -1, 2)
        self.check(Ratio(bottom=4, top=2), 1, 2)
        self.check(Ratio(top=3), 3, 1)

    def test_refused(self):
        for value in not_integers():
            check_value(self, InvalidNumber, value, Ratio, value)
            check_value(self, InvalidNumber, value, Ratio, value, 0)
            check_value(self, InvalidNumber, value, Ratio, value, "first comes first")
            check_value(self, InvalidNumber, value, Ratio, 3, value)
            check_value(self, InvalidNumber, value, Ratio, top=3, bottom=value)
        check_value(self, InvalidNumber, 0, Ratio, 3, 0)
        check_value(self, InvalidNumber, 0, Ratio, 0, 0)

    def test_sign_and_is_whole(self):
        self.assertEqual([Ratio(-3, 7).sign, Ratio(0).sign, Ratio(1, 9).sign, Ratio(5, -2).sign], [-1, 0, 1, -1])
        for number in MANY:
            self.assertIs(type(number.sign), int)
            self.assertIs(number.is_whole, number.bottom == 1)
        self.assertEqual([Ratio(4, 2).is_whole, Ratio(1, 2).is_whole, Ratio(0).is_whole], [True, False, True])

    def test_never_changes(self):
        number = Ratio(1, 2)
        for name in ["top", "bottom", "sign", "is_whole"]:
            with self.assertRaises(AttributeError):
                setattr(number, name, 3)
        for other in MANY:
            number + other, number - other, number * other, number.size(), -number
        self.check(number, 1, 2)


class Operators(unittest.TestCase):
    def check(self, found, fraction):
        self.assertIs(type(found), Ratio)
        self.assertEqual((found.top, found.bottom), (fraction.numerator, fraction.denominator))

    def test_right(self):
        for one, two in itertools.product(MANY, MANY + WHOLE):
            self.check(one + two, worth(one) + worth(two))
            self.check(one - two, worth(one) - worth(two))
            self.check(one * two, worth(one) * worth(two))
            if worth(two) != 0:
                self.check(one.over(two), worth(one) / worth(two))

    def test_left(self):
        for one, two in itertools.product(WHOLE, MANY):
            self.check(one + two, worth(one) + worth(two))
            self.check(one - two, worth(one) - worth(two))
            self.check(one * two, worth(one) * worth(two))

    def test_one(self):
        for one in MANY:
            self.check(-one, -worth(one))
            self.check(one.size(), abs(worth(one)))

    def test_less(self):
        for one, two in itertools.product(MANY, MANY + WHOLE):
            self.assertIs(one.is_below(two), worth(one) < worth(two))
            self.assertIs(one.is_at_most(two), worth(one) <= worth(two))
        self.assertEqual([Ratio(1, 2).is_below(other=1), Ratio(1).is_at_most(other=1), Ratio(1).is_below(1)],
                         [True, True, False])

    def test_refused(self):
        for value in not_numbers():
            for action in [lambda one, two: one + two, lambda one, two: one - two, lambda one, two: one * two,
                           lambda one, two: one.over(two), lambda one, two: one.is_below(two),
                           lambda one, two: one.is_at_most(two), lambda one, two: one.over(other=two)]:
                check_value(self, InvalidNumber, value, action, Ratio(1, 2), value)
                check_value(self, InvalidNumber, value, action, Ratio(0), value)

    def test_divided_by_zero(self):
        for nought in [0, Ratio(0), Ratio(0, -5)]:
            check_bare(self, DividedByZero, Ratio(1, 2).over, nought)
            check_bare(self, DividedByZero, Ratio(0).over, nought)


class Equal(unittest.TestCase):
    def test_ratios(self):
        self.assertIs(Ratio(2, 4) == Ratio(1, 2), True)
        self.assertIs(Ratio(2, 4) != Ratio(1, 2), False)
        self.assertIs(Ratio(1, 2) == Ratio(-1, 2), False)
        self.assertIs(Ratio(1, 2) == Ratio(1, 3), False)
        self.assertIs(Ratio(1, 2) != Ratio(1, 3), True)
        self.assertIs(Ratio(3, 2) == Ratio(1, 2), False)

    def test_with_ratios_alone(self):
        for value in not_numbers() + [0, 1, -1]:
            for number in [Ratio(0), Ratio(1), Ratio(-1)]:
                self.assertIs(number == value, False)
                self.assertIs(value == number, False)
                self.assertIs(number != value, True)
                self.assertIs(value != number, True)

    def test_words(self):
        self.assertEqual([str(number) for number in [Ratio(3, 2), Ratio(-3, 2), Ratio(4, 2), Ratio(0), Ratio(-7)]],
                         ["3/2", "-3/2", "2", "0", "-7"])
        self.assertEqual([repr(number) for number in [Ratio(3, 2), Ratio(4, -6), Ratio(5), Ratio(0)]],
                         ["Ratio(3, 2)", "Ratio(-2, 3)", "Ratio(5, 1)", "Ratio(0, 1)"])


class Total(unittest.TestCase):
    def test_sums(self):
        for numbers in [[], [3], [1, 2, -7], [Ratio(1, 2), 3, Ratio(-1, 3)], MANY + WHOLE]:
            for told in [numbers, tuple(numbers)]:
                found = unchanged(self, Ratio.total, told)
                self.assertIs(type(found), Ratio)
                self.assertEqual(found, made(sum([worth(number) for number in numbers], Fraction(0))))
        self.assertEqual(Ratio.total(numbers=[1, Ratio(1, 2)]), Ratio(3, 2))
        self.assertEqual(Ratio(5).total([1]), Ratio(1))

    def test_no_list(self):
        for value in not_lists():
            check_value(self, InvalidNumber, value, Ratio.total, value)

    def test_first_wrong_one(self):
        for value in not_numbers():
            check_value(self, InvalidNumber, value, Ratio.total, [value])
            check_value(self, InvalidNumber, value, Ratio.total, (1, Ratio(1, 2), value, "behind"))

    def test_defined_in_the_class(self):
        for name in ["__init__", "__add__", "__radd__", "__sub__", "__rsub__", "__mul__", "__rmul__", "__neg__",
                     "__eq__", "__str__", "__repr__", "over", "size", "is_below", "is_at_most", "total", "top",
                     "bottom", "sign", "is_whole"]:
            self.assertIn(name, vars(Ratio))


if __name__ == "__main__":
    unittest.main()
