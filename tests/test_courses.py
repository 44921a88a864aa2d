"""[41], [42]: courses, their least form, and courses made of courses."""

import itertools
import math
import random
import unittest

from helpers import (
    as_tuples, as_words, check_new, check_parameters, check_too_many, check_value, not_counts, not_integers, not_lists,
    not_numbers, unchanged,
)
from known import NOUGHT, ODD, SAME, random_course, wrong_courses
from soughtrows.courses import Course, difference, grown, led, plus, times
from soughtrows.errors import (
    InvalidCourse, InvalidNumber, InvalidNumbers, InvalidParts, InvalidPeriod, InvalidWhole,
)
from soughtrows.ratios import Ratio

MANY_WHOLES = list(range(-13, 14)) + [10 ** 6, -10 ** 6 - 1, 10 ** 29 + 7, -10 ** 29]


def worth(parts, whole):
    """The worth of the parts, reckoned on its own."""
    return Ratio.total([number * whole ** power for power, number in enumerate(parts[whole % len(parts)])])


def wrong_parts():
    numbers = not_lists() + [[value] for value in not_numbers()] + [[1] * 9, (0,) * 9, [1, [1]], "12"]
    found = not_lists() + [[], (), [[1]] * 61, ([],) * 61, [1], {0: [1]}, "ab", [SAME], SAME]
    return found + [[value] for value in numbers] + [[[1], value] for value in numbers]


class Courses(unittest.TestCase):
    def check(self, course, parts):
        """The course has these least parts, in words."""
        self.assertEqual(as_words(course.parts()), as_words(parts))
        self.assertEqual(as_words([course.period, course.degree]),
                         as_words([len(parts), max(len(part) for part in parts) - 1]))

    def test_least_form(self):
        one, two = Ratio(1), Ratio(2)
        for parts, least in [([[]], [[]]), ([[0]], [[]]), ([[0, 0, 0]] * 5, [[]]), ([[], [0], [0, Ratio(0)]], [[]]),
                             ([[1, 0]], [[one]]), ([[1], [1, 0], (1, 0, 0)], [[one]]), ([[0, 1]], [[Ratio(0), one]]),
                             ([[1], [2], [1], [2]], [[one], [two]]), ([[1], [2], [1]], [[one], [two], [one]]),
                             ([[1], [1], [2], [1], [1], [2, 0]], [[one], [one], [two]]),
                             ([[], [0, 1]], [[], [Ratio(0), one]]), (([1, 2], (1, 2)), [[one, two]]),
                             ([[Ratio(4, 2)], [2]], [[two]]), ([[0, 0, 1], [0, 1]], [[Ratio(0)] * 2 + [one],
                                                                                       [Ratio(0), one]])]:
            self.check(Course(parts), least)
            self.check(Course(as_tuples(parts)), least)
            self.check(Course(list(parts) * 3), least)

    def test_sixty_parts_of_eight_numbers(self):
        parts = [[k, 0, 0, 0, 0, 0, 0, 1] for k in range(60)]
        course = Course(parts)
        self.assertEqual([course.period, course.degree], [60, 7])
        self.assertEqual(course.at(-1), Ratio(58))
        self.check(Course([[0] * 8] * 60), [[]])
        self.assertEqual(Course([[1]] * 59 + [[2]]).period, 60)

    def test_worths(self):
        for course, told in [(SAME, lambda n: n), (ODD, lambda n: n % 2), (NOUGHT, lambda n: 0),
                             (Course([[5]]), lambda n: 5), (Course([[0, 0, 1], [1], [-1, 2]]),
                                                            lambda n: [n * n, 1, 2 * n - 1][n % 3])]:
            for whole in MANY_WHOLES:
                self.assertEqual(as_words(course.at(whole)), as_words(Ratio(told(whole))))
        self.assertEqual(Course([[Ratio(1, 2), Ratio(1, 3)]]).at(whole=-2), Ratio(-1, 6))
        self.assertEqual(Course([[3, 5]]).at(0), Ratio(3))

    def test_random(self):
        draw = random.Random(41)
        for _ in range(100):
            parts = [[draw.choice([0, 0, 1, 2, Ratio(1, 2)]) for _ in range(draw.randint(0, 4))]
                     for _ in range(draw.randint(1, 6))]
            course = unchanged(self, Course, parts)
            for whole in MANY_WHOLES:
                self.assertEqual(course.at(whole), worth(parts, whole))
            self.assertTrue(all(not part or part[-1].sign for part in course.parts()))
            for fewer in range(1, course.period):
                near = [course.parts()[k % fewer] for k in range(course.period * fewer)]
                self.assertNotEqual([course.parts()[k % course.period] for k in range(course.period * fewer)], near)

    def test_equal(self):
        same = [Course([[0, 1]]), Course([[0, 1, 0]]), Course(([0, 1], (0, 1))), Course([[0, Ratio(1)]] * 7)]
        for one, two in itertools.product(same, repeat=2):
            self.assertIs(one == two, True)
            self.assertIs(one != two, False)
        for other in [Course([[0, 2]]), NOUGHT, ODD, Course([[0, 1], [0, 1, 0], [1, 1]]), Course([[1, 1]])]:
            self.assertIs(SAME == other, False)
            self.assertIs(SAME != other, True)
        for value in wrong_courses() + [SAME.parts()]:
            self.assertIs(SAME == value, False)
            self.assertIs(value == SAME, False)

    def test_equal_just_if_all_worths_are(self):
        draw = random.Random(42)
        seen = 0
        for _ in range(300):
            one, two = [Course([[draw.randint(0, 1) for _ in range(draw.randint(0, 2))]
                                for _ in range(draw.randint(1, 4))]) for _ in range(2)]
            alike = all(one.at(n) == two.at(n) for n in range(24))
            self.assertIs(one == two, alike)
            seen += alike
        self.assertTrue(10 < seen < 290)

    def test_copies(self):
        parts = [[0, 1], [2]]
        course = Course(parts)
        parts[0].append(9)
        parts.append([1])
        course.parts()[0].append(7)
        course.parts().clear()
        self.assertEqual(course, Course([[0, 1], [2]]))
        check_new(self, parts, course.parts(), course.parts())
        with self.assertRaises(AttributeError):
            course.period = 3
        with self.assertRaises(AttributeError):
            course.degree = 3

    def test_refused(self):
        check_parameters(self, Course, [("parts", [[0, 1]])], {"parts": (InvalidParts, wrong_parts())})
        for value in not_integers():
            check_value(self, InvalidWhole, value, SAME.at, value)

    def test_methods_are_its_own(self):
        for name in ["__init__", "period", "degree", "parts", "at", "__eq__"]:
            self.assertIn(name, vars(Course))


class CoursesOfCourses(unittest.TestCase):
    def check(self, course, told):
        for whole in MANY_WHOLES:
            self.assertEqual(course.at(whole), told(whole))

    def test_plus_and_times(self):
        draw = random.Random(43)
        for _ in range(60):
            one, two = random_course(draw), random_course(draw, 5)
            number = draw.choice([0, 1, -2, Ratio(3, 4)])
            self.check(unchanged(self, plus, one, two), lambda n: one.at(n) + two.at(n))
            self.assertEqual(plus(course=one, other=two), plus(two, one))
            self.check(unchanged(self, times, one, number), lambda n: one.at(n) * number)
        self.assertEqual(plus(ODD, times(ODD, -1)), NOUGHT)
        self.assertEqual(plus(ODD, Course([[1], []])), Course([[1]]))
        self.assertEqual(times(ODD, 0), NOUGHT)
        self.assertEqual(times(course=SAME, number=Ratio(1, 2)), Course([[0, Ratio(1, 2)]]))

    def test_periods_of_sums(self):
        def one_of(period, number=1):
            return Course([[]] * (period - 1) + [[number]])
        for one, two in itertools.product([1, 2, 3, 4, 5, 6, 7, 8, 9, 12, 15, 20, 30, 59, 60], repeat=2):
            common = math.lcm(one, two)
            if common > 60:
                check_too_many(self, "period", 60, plus, one_of(one), one_of(two))
            else:
                # Even two of one period do not cancel here.
                self.assertEqual(plus(one_of(one), one_of(two)).period, common)
        check_too_many(self, "period", 60, plus, one_of(8), one_of(9))
        check_too_many(self, "period", 60, plus, one_of(9), times(one_of(8), -1))
        # What counts are the periods, not how many parts were told.
        self.assertEqual(plus(Course([[1]] * 49), Course([[1], [2]] * 25)), Course([[2], [3]]))

    def test_led(self):
        draw = random.Random(44)
        for _ in range(60):
            course = random_course(draw)
            by, shift = draw.randint(-4, 4), draw.randint(-9, 9)
            self.check(unchanged(self, led, course, by, shift), lambda n: course.at(by * n + shift))
        self.assertEqual(led(SAME, 0, 7), Course([[7]]))
        self.assertEqual(led(ODD, 2, 1), Course([[1]]))
        self.assertEqual(led(ODD, -1, 0), ODD)
        self.assertEqual(led(course=Course([[], [], [1]]), by=-1, shift=0), Course([[], [1], []]))
        self.assertEqual(led(Course([[0, 0, 1]]), -2, 3), Course([[9, -12, 4]]))
        self.assertEqual(led(Course([[5]] * 4 + [[1, 2, 3]]), 5, 0).period, 1)

    def test_difference(self):
        draw = random.Random(45)
        for _ in range(60):
            course, step = random_course(draw), draw.randint(-5, 5)
            self.check(unchanged(self, difference, course, step), lambda n: course.at(n + step) - course.at(n))
        self.assertEqual(difference(SAME, 4), Course([[4]]))
        self.assertEqual(difference(ODD, 2), NOUGHT)
        self.assertEqual(difference(course=ODD, step=-1), Course([[1], [-1]]))
        self.assertEqual(difference(SAME, 0), NOUGHT)
        long = Course([[k, 1] for k in range(59)])
        self.assertEqual(difference(long, 1).at(57), Ratio(2))

    def test_grown(self):
        for period in range(1, 13):
            for rounds in range(6):
                numbers = [(k * k * k * 7 + k) % 11 for k in range(period * rounds)]
                course = unchanged(self, grown, period, numbers)
                self.assertEqual([course.at(k) for k in range(period * rounds)], [Ratio(n) for n in numbers])
                self.assertEqual(period % course.period, 0)
                self.assertTrue(course.degree < max(rounds, 1))
                self.assertEqual(grown(period, tuple(numbers)), course)
        self.assertEqual(grown(1, [0, 1, 4, 9, 16]), Course([[0, 0, 1]]))
        self.assertEqual(grown(period=2, numbers=[0, 1, 2, 5]), Course([[0, 1], [-1, 2]]))
        self.assertEqual(grown(4, []), NOUGHT)
        self.assertEqual(grown(3, [Ratio(1, 2), 2, 3]), Course([[Ratio(1, 2)], [2], [3]]))

    def test_grown_comes_back(self):
        draw = random.Random(46)
        for _ in range(40):
            period, rounds = draw.randint(1, 6), draw.randint(1, 5)
            course = Course([[draw.randint(-4, 4) for _ in range(rounds)] for _ in range(period)])
            self.assertEqual(grown(period, [course.at(k) for k in range(period * rounds)]), course)

    def test_refused(self):
        courses, wholes = (InvalidCourse, wrong_courses()), (InvalidWhole, not_integers())
        wrong = {"course": courses, "other": courses, "number": (InvalidNumber, not_numbers()),
                 "by": wholes, "shift": wholes, "step": wholes}
        check_parameters(self, plus, [("course", SAME), ("other", ODD)], wrong)
        check_parameters(self, times, [("course", SAME), ("number", 2)], wrong)
        check_parameters(self, led, [("course", SAME), ("by", 2), ("shift", 1)], wrong)
        check_parameters(self, difference, [("course", SAME), ("step", 2)], wrong)

    def test_grown_refused(self):
        numbers = not_lists() + [[1], [1, 2, 3], [1] * 12, (1,), [[1, 2]], "12", {0: 1, 1: 2}, SAME]
        numbers += [[1, value] for value in not_numbers()]
        wrong = {"period": (InvalidPeriod, not_counts() + [0, 13, 10 ** 20, Ratio(2)]),
                 "numbers": (InvalidNumbers, numbers)}
        check_parameters(self, grown, [("period", 2), ("numbers", [1, 2])], wrong)
        check_value(self, InvalidNumbers, [1] * 6, grown, 1, [1] * 6)
        check_value(self, InvalidNumbers, [1] * 72, grown, 12, [1] * 72)


if __name__ == "__main__":
    unittest.main()
