"""[43], [44]: looks, and whether fillings keep lines and books."""

import itertools
import math
import random
import unittest

from helpers import (
    as_tuples, as_words, check_new, check_parameters, check_too_many, check_value, unchanged,
)
from known import (
    ADDING, NOUGHT, ODD, ODDS, PARTED, SAME, SPLIT, SQUARES, SUMS, bracket, every_place, line_worth, random_course,
    random_line, random_place, repeating, told, wrong_books, wrong_courses, wrong_fillings, wrong_lines, wrong_places,
)
from soughtrows.books import Book
from soughtrows.courses import Course, plus, times
from soughtrows.errors import InvalidBook, InvalidFilling, InvalidLine, InvalidPlace
from soughtrows.kept import break_in, break_of, keeps, keeps_book, look, value_at
from soughtrows.lines import Line
from soughtrows.ratios import Ratio


def single(period, degree=-1):
    """A course of just this period and degree."""
    return Course([[]] * (period - 1) + [[1] * max(degree, 0) + [1]])


def brute_look(line, filling):
    """All places of the look."""
    courses = [filling[function] for _, function, _ in line.terms()]
    common = math.lcm(1, *[course.period for course in courses])
    most = max([0] + [course.degree for course in courses] + [sum(powers) for _, powers in line.rest()])
    lots = [lot for lot in every_place(line.letters, 0, most) if sum(lot) <= most]
    return [[r + common * t for r, t in zip(first, lot)]
            for first in every_place(line.letters, 0, common - 1) for lot in lots]


class ValueAt(unittest.TestCase):
    def test_random(self):
        draw = random.Random(440)
        for _ in range(150):
            line = random_line(draw, 3)
            filling = [random_course(draw) for _ in range(3)]
            for far in [3, 10 ** 28]:
                place = random_place(draw, line.letters, far)
                found = unchanged(self, value_at, line, filling, place)
                self.assertEqual(found, line_worth(line, lambda f, n: filling[f].at(n), place))
                self.assertEqual(value_at(line, tuple(filling), tuple(place)), found)

    def test_small(self):
        self.assertEqual(as_words(value_at(SUMS, [ODD], [1, 1])), "Ratio(-2, 1)")
        self.assertEqual(value_at(line=told(0, 4, 3), filling=[SAME], place=[]), Ratio(1))
        self.assertEqual(value_at(Line(1, [], [(2, [3])]), [NOUGHT], [-2]), Ratio(-16))
        self.assertEqual(value_at(Line(0, [], []), [SAME, ODD, NOUGHT], ()), Ratio(0))

    def test_fillings_of_lines(self):
        for many, line in enumerate([SUMS, repeating(2, 1), PARTED], 1):
            for courses in range(5):
                filling = [SAME] * courses
                if many <= courses <= 3:
                    self.assertIs(look(line, filling) > 0, True)
                else:
                    for function in [look, keeps, break_of]:
                        check_value(self, InvalidFilling, filling, function, line, filling)

    def test_refused(self):
        fillings = wrong_fillings(1) + [[SAME] * 2 + [value] for value in wrong_courses()]
        fillings = [value for value in fillings if value != [SAME] * 2]
        wrong = {"line": (InvalidLine, wrong_lines()), "filling": (InvalidFilling, fillings),
                 "place": (InvalidPlace, wrong_places(2))}
        good = [("line", SUMS), ("filling", [SAME])]
        check_parameters(self, value_at, good + [("place", [1, 2])], wrong)
        for function in [look, keeps, break_of]:
            check_parameters(self, function, good, wrong)


class Looks(unittest.TestCase):
    def test_of_letters(self):
        for letters, (period, degree) in itertools.product(range(4), [(1, 0), (1, 3), (2, 0), (3, 1), (2, 2), (4, 7)]):
            line = Line(letters, [(1, 0, [1] * letters + [0])], [])
            lots = [1, degree + 1, (degree + 1) * (degree + 2) // 2,
                    (degree + 1) * (degree + 2) * (degree + 3) // 6][letters]
            self.assertEqual(as_words(look(line, [single(period, degree)])), str(period ** letters * lots))

    def test_what_counts(self):
        line = Line(1, [(1, 0, [1, 0]), (2, 2, [3, 1])], [(1, [2])])
        self.assertEqual(look(line, [single(2), single(5, 7), single(3)]), 6 * 3)
        self.assertEqual(look(line, [single(4, 5), single(5, 7), single(6, 1)]), 12 * 6)
        self.assertEqual(look(Line(1, [], [(1, [2])]), [single(5, 7)]), 3)
        self.assertEqual(look(Line(1, [], []), [single(5, 7)]), 1)
        self.assertEqual(look(Line(1, [(1, 0, [1, 0])], []), [NOUGHT]), 1)
        self.assertEqual(look(Line(1, [(1, 0, [1, 0]), (-1, 0, [1, 0])], []), [single(5, 7)]), 1)
        self.assertEqual(look(Line(2, [(1, 0, [0, 0, 4])], []), [single(3)]), 9)
        self.assertEqual(look(line=SUMS, filling=[Course([[1], [2]] * 3)]), 4)

    def test_great_ones_are_told(self):
        line = Line(3, [(1, 0, [1, 0, 0, 0]), (1, 1, [0, 1, 0, 0]), (1, 2, [0, 0, 1, 0])], [(1, [1, 1, 1])])
        filling = [single(59, 7), single(60, 7), single(49)]
        self.assertEqual(look(line, filling), (59 * 60 * 49) ** 3 * 120)
        check_too_many(self, "places", 2000, keeps, line, filling)
        check_too_many(self, "places", 2000, break_of, line, filling)
        check_too_many(self, "places", 2000, keeps_book, Book(3, [line]), filling)

    def test_random(self):
        draw = random.Random(43)
        for _ in range(100):
            line = random_line(draw, 2)
            filling = [random_course(draw, 3), random_course(draw)]
            self.assertEqual(unchanged(self, look, line, filling), len(brute_look(line, filling)))


class Kept(unittest.TestCase):
    def check(self, line, filling, is_kept):
        self.assertIs(unchanged(self, keeps, line, filling), is_kept)
        self.assertIs(keeps(line, tuple(filling)), is_kept)
        place = unchanged(self, break_of, line, filling)
        if is_kept:
            self.assertIsNone(place)
        else:
            self.assertIsInstance(place, list)
            self.assertNotEqual(value_at(line, filling, place), Ratio(0))
            check_new(self, place, break_of(line, filling))

    def test_known(self):
        square = Course([[0, 0, 1]])
        for line, filling, is_kept in [
                (SUMS, [SAME], True), (SUMS, [ODD], False), (ODDS, [ODD], True), (ODDS, [plus(ODD, SAME)], True),
                (SQUARES, [square], True), (SQUARES, [SAME], False), (SUMS, [square], False), (SUMS, [NOUGHT], True),
                (PARTED, [Course([[3, 1]]), Course([[1, 1]]), Course([[2, 1]])], True),
                (PARTED, [Course([[3, 1]]), Course([[1, 1]]), Course([[1, 1]])], False),
                (repeating(6), [Course([[1], [2], [3]])], True), (repeating(6), [Course([[1], [2], [3], [4]])], False),
                (told(0, 4, 5), [Course([[1, 1]])], True), (told(0, -4, 5), [Course([[1, 1]])], False),
                (Line(1, [(1, 0, [1, 0])], [(-1, [3]), (2, [0])]), [Course([[-2, 0, 0, 1]])], True),
                (Line(2, [], []), [SAME], True), (Line(2, [], [(1, [1, 1])]), [SAME], False),
                (bracket(2, 1), [Course([[7, 3], []])], True), (bracket(2, 0), [Course([[7, 3], []])], False)]:
            self.check(line, filling, is_kept)

    def test_what_breaks_at_one_place_of_the_look(self):
        # f(x) = n (n - 1) (n - 2) is 0 at 0, 1 and 2.
        self.check(Line(1, [(1, 0, [1, 0])], []), [Course([[0, 2, -3, 1]])], False)
        self.check(Line(1, [(1, 0, [1, 0])], []), [Course([[]] * 59 + [[1]])], False)
        self.check(Line(2, [(1, 0, [1, 1, 0]), (-1, 0, [1, -1, 0])], []), [ODD], True)
        self.check(Line(2, [(1, 0, [1, 0, 0])], [(-1, [0, 1])]), [SAME], False)

    def test_random(self):
        draw = random.Random(441)
        seen = {True: 0, False: 0}
        for _ in range(300):
            filling = [random_course(draw, 2, 1), random_course(draw, 3, 0)]
            line = random_line(draw, 2, 2)
            is_kept = all(line_worth(line, lambda f, n: filling[f].at(n), place).sign == 0
                          for place in brute_look(line, filling))
            self.check(line, filling, is_kept)
            seen[is_kept] += 1
        self.assertTrue(min(seen.values()) > 10, seen)

    def test_two_thousand_places(self):
        line = Line(1, [(1, 0, [1, 0]), (-1, 1, [1, 0])], [])
        for periods, degree, is_told in [((40, 50), 0, True), ((40, 49), 0, True), ((45, 44), 0, True),
                                         ((47, 43), 0, False), ((50, 8), 7, True), ((43, 48), 0, False),
                                         ((57, 5), 6, True), ((47, 6), 7, False), ((25, 16), 4, True)]:
            filling = [single(periods[0], degree), single(periods[1])]
            size = math.lcm(*periods) * (degree + 1)
            self.assertEqual(look(line, filling), size)
            self.assertEqual(size <= 2000, is_told)
            if is_told:
                self.check(line, filling, False)
            else:
                for function in [keeps, break_of]:
                    check_too_many(self, "places", 2000, function, line, filling)

    def test_many_places_that_are_kept(self):
        wide = single(11, 1)
        line = Line(2, [(1, 0, [1, 3, 0]), (1, 1, [1, 3, 0])], [])
        self.assertEqual(look(line, [wide, times(wide, -1)]), 121 * 3)
        self.check(line, [wide, times(wide, -1)], True)


class KeptBooks(unittest.TestCase):
    def check(self, book, filling, broken):
        """broken: the positions of the lines that the filling does not keep."""
        self.assertIs(unchanged(self, keeps_book, book, filling), not broken)
        found = unchanged(self, break_in, book, filling)
        if not broken:
            self.assertIsNone(found)
            return
        self.assertIsInstance(found, tuple)
        position, place = found
        self.assertIn(position, broken)
        self.assertIsInstance(place, list)
        self.assertNotEqual(value_at(book.lines()[position], filling, place), Ratio(0))
        self.assertEqual(break_in(book, as_tuples(filling)), found)

    def test_small(self):
        self.check(ADDING, [SAME], [])
        self.check(ADDING, [ODD], [0])
        self.check(Book(1, [ODDS, SUMS]), [ODD], [1])
        self.check(Book(1, [SUMS, ODDS, SUMS]), [ODD], [0, 2])
        self.check(Book(1, []), [ODD], [])
        self.check(Book(3, []), [ODD, SAME, NOUGHT], [])
        self.check(Book(2, [SUMS, told(1, 3, 1)]), [SAME, ODD], [])
        self.check(Book(2, [SUMS, told(1, 4, 1)]), [SAME, ODD], [1])
        self.check(SPLIT, [SAME, plus(SAME, Course([[1]])), SAME], [0])
        self.assertIs(keeps_book(book=ADDING, filling=[SAME]), True)
        self.assertIsNone(break_in(book=ADDING, filling=[SAME]))

    def test_too_many_in_whichever_line(self):
        small, great = told(0, 0, 5), Line(2, [(1, 0, [1, 1, 0])], [])
        filling = [single(50)]
        self.assertEqual([look(small, filling), look(great, filling)], [1, 2500])
        for lines in [[small, great], [great, small], [great], [small, small, great, small]]:
            for function in [keeps_book, break_in]:
                check_too_many(self, "places", 2000, function, Book(1, lines), filling)
        self.check(Book(1, [small]), filling, [0])

    def test_refused(self):
        wrong = {"book": (InvalidBook, wrong_books()), "filling": (InvalidFilling, wrong_fillings(2))}
        for function in [keeps_book, break_in]:
            check_parameters(self, function, [("book", Book(2, [SUMS])), ("filling", [SAME, ODD])], wrong)
            check_value(self, InvalidFilling, [SAME], function, Book(2, [SUMS]), [SAME])


if __name__ == "__main__":
    unittest.main()
