"""[71] to [73]: told values, clashes, and what values force."""

import random
import unittest

from brute import small_books
from helpers import (
    as_tuples, as_words, check_bare, check_new, check_parameters, check_value, not_integers, not_lists, not_numbers,
    unchanged,
)
from known import (
    ADDING, ODDS, SPLIT, SQUARES, STAMPS, SUMS, bracket, differences, is_kept_near, middles, repeating, told,
    wrong_books, wrong_functions,
)
from soughtrows.books import Book
from soughtrows.errors import (
    InvalidBook, InvalidFunction, InvalidValues, InvalidWhole, NobodyKeeps, NoneHasThem, NotHeld,
)
from soughtrows.given import clash, forced, is_clash, through
from soughtrows.lines import Line
from soughtrows.ratios import Ratio
from soughtrows.spaces import is_kept, space

NONE = Book(1, [SUMS, told(0, 0, 1)])
LOOSE = Book(1, [bracket(2, 0)])
BOOKS = [ADDING, STAMPS, SPLIT, Book(1, [SQUARES]), Book(1, [middles(3)]), Book(1, [differences(3, 2)]),
         Book(1, [SUMS, told(0, 2, 6)]), Book(1, [Line(2, middles(2).terms(), [(-8, [0, 2])])]),
         Book(2, [repeating(3), ODDS, repeating(4, 1)])]


def as_ratio(number):
    return Ratio(1) * number


def added(numbers):
    return Ratio.total(list(numbers))


class Given(unittest.TestCase):
    def check(self, book, values):
        """Just one of a filling that has the values and a clash is there; tells which."""
        filling = unchanged(self, through, book, values)
        found = unchanged(self, clash, book, values)
        self.assertEqual([through(book, tuple(values)), clash(book, tuple(values))], [filling, found])
        self.assertIs(filling is None, found is not None)
        if filling is None:
            self.assertIsInstance(found, list)
            self.assertTrue(all(isinstance(number, Ratio) for number in found))
            self.assertIs(is_clash(book, values, found), True)
            self.check_clash(book, values, found)
            check_new(self, found, clash(book, values))
            return False
        self.assertIsInstance(filling, list)
        for function, whole, number in values:
            self.assertEqual(filling[function].at(whole), as_ratio(number))
        self.assertTrue(is_kept_near(book.lines(), lambda f, n: filling[f].at(n), 3))
        self.assertIs(is_clash(book, values, [1] * len(values)), False)
        return True

    def check_clash(self, book, values, found):
        """As the document tells, by a space of the book."""
        first, basis = space(book)
        for filling in basis:
            self.assertEqual(added(number * filling[f].at(n) for number, (f, n, _) in zip(found, values)), Ratio(0))
        self.assertNotEqual(added(number * first[f].at(n) for number, (f, n, _) in zip(found, values)),
                            added(number * as_ratio(worth) for number, (_, _, worth) in zip(found, values)))

    def test_small(self):
        self.assertEqual(through(ADDING, [(0, 2, 6)])[0].at(5), Ratio(15))
        for values, has in [([], True), ([(0, 0, 0)], True), ([(0, 0, 1)], False), ([(0, 2, 6), (0, 4, 12)], True),
                            ([(0, 2, 6), (0, 4, 11)], False), ([(0, -3, Ratio(1, 2))], True),
                            ([(0, 7, 1), (0, -7, -1)], True), ([(0, 7, 1), (0, -7, 1)], False)]:
            self.assertIs(self.check(ADDING, values), has)
        self.assertIs(self.check(STAMPS, [(0, 2, 6), (0, 4, 12), (0, 1, -5), (0, 3, 1)]), True)
        self.assertIs(self.check(STAMPS, [(0, 2, 6), (0, 4, 12), (0, 1, -5), (0, 3, 2)]), False)
        self.assertIs(self.check(SPLIT, [(0, 1, 1), (1, 1, 1), (2, 1, 1)]), True)
        self.assertIs(self.check(SPLIT, [(0, 0, 1), (1, 0, 1), (2, 0, 1)]), False)
        self.assertEqual(through(book=ADDING, values=((0, 1, 0),))[0].degree, -1)
        self.assertIsNone(clash(book=ADDING, values=[]))

    def test_dimension_nought(self):
        book = Book(1, [SUMS, told(0, 2, 6)])
        self.assertIs(self.check(book, []), True)
        self.assertIs(self.check(book, [(0, 5, 15), (0, -1, -3)]), True)
        self.assertIs(self.check(book, [(0, 5, 15), (0, -1, 3)]), False)
        self.assertIs(self.check(Book(1, [bracket(1, 0)]), [(0, 5, 1)]), False)

    def test_near_and_far(self):
        for far in [10, 10 ** 6, 10 ** 15 + 1, -10 ** 29]:
            self.assertIs(self.check(ADDING, [(0, far, 5), (0, 2 * far, 10)]), True)
            self.assertIs(self.check(ADDING, [(0, far, 5), (0, 2 * far, Ratio(21, 2))]), False)
            self.assertIs(self.check(Book(1, [repeating(10)]), [(0, far, 5), (0, far + 10, 5)]), True)
            self.assertIs(self.check(Book(1, [repeating(10)]), [(0, far, 5), (0, far - 20, 6)]), False)
            self.assertIs(self.check(Book(1, [differences(3, 2)]), [(0, far, 1), (0, far + 2, 2), (0, -far, 7)]), True)

    def test_forty_values(self):
        values = [(0, 5 * k - 90, 10 * k - 180) for k in range(40)]
        self.assertIs(self.check(ADDING, values), True)
        self.assertIs(self.check(ADDING, values[:-1] + [(0, 105, 209)]), False)
        book = Book(1, [middles(12)])
        self.assertIs(self.check(book, [(0, k, k * k if k < 24 else 0) for k in range(24)]), True)
        values = [(0, k, k) for k in range(40)]
        self.assertIs(self.check(book, values), True)
        self.assertIs(self.check(book, values[:-1] + [(0, 39, 40)]), False)

    def test_random(self):
        draw = random.Random(71)
        seen = {True: 0, False: 0}
        for book in BOOKS * 6 + [book for book in small_books(710, 40) if is_kept(book)]:
            first, basis = space(book)
            values = {}
            for _ in range(draw.randint(0, 7)):
                function, whole = draw.randrange(book.functions), draw.randint(-8, 8)
                values[function, whole] = draw.choice([draw.randint(-2, 2), first[function].at(whole),
                                                       added(one[function].at(whole) for one in [first, *basis])])
            seen[self.check(book, [(*spot, number) for spot, number in values.items()])] += 1
        self.assertTrue(min(seen.values()) > 25, seen)

    def test_states(self):
        for function, more in [(through, []), (clash, []), (is_clash, [[1]]), (forced, [0, 1])]:
            for values in [[], [(0, 0, 1)]]:
                for book in [LOOSE, Book(1, []), Book(2, NONE.lines())]:
                    check_bare(self, NotHeld, function, book, values, *more)
                check_bare(self, NobodyKeeps, function, NONE, values, *more)
            for book in [LOOSE, NONE]:
                check_value(self, InvalidValues, [(1, 0, 1)], function, book, [(1, 0, 1)], *more)

    def test_refused(self):
        good = (0, 1, 2)
        wrong = not_lists() + [good, [list(good)], [good[:2]], [good + (0,)], [()], [None], "ab", [[good]], {0: good},
                               [good, good], [good, (0, 1, 3)], [good, (0, 2, 3), (0, 1, Ratio(2))],
                               [(0, k, 0) for k in range(41)], tuple([(0, k, 0) for k in range(41)])]
        wrong += [[good, (value, 5, 2)] for value in wrong_functions(1)]
        wrong += [[good, (0, value, 2)] for value in not_integers()]
        wrong += [[good, (0, 5, value)] for value in not_numbers()]
        parameters = {"book": (InvalidBook, wrong_books()), "values": (InvalidValues, wrong),
                      "function": (InvalidFunction, wrong_functions(1)), "whole": (InvalidWhole, not_integers())}
        start = [("book", ADDING), ("values", [good])]
        check_parameters(self, through, start, parameters)
        check_parameters(self, clash, start, parameters)
        check_parameters(self, is_clash, start + [("value", None)], parameters)
        check_parameters(self, forced, start + [("function", 0), ("whole", 3)], parameters)


class IsClash(unittest.TestCase):
    VALUES = [(0, 2, 6), (0, 4, 11)]

    def test_times_a_number(self):
        for number in [1, -3, Ratio(2, 7), 0]:
            for shape in [list, tuple]:
                value = shape([2 * number, -1 * number])
                self.assertIs(unchanged(self, is_clash, ADDING, self.VALUES, value), number != 0)
        self.assertIs(is_clash(book=ADDING, values=tuple(self.VALUES), value=(Ratio(2), -1)), True)
        self.assertIs(is_clash(ADDING, [(0, 2, 6), (0, 4, 12)], [2, -1]), False)

    def test_a_number_changed(self):
        for book in BOOKS:
            for values in [[(0, 0, 5), (0, 2, -3), (0, 7, 11), (0, 12, 1), (0, -6, 2), (0, 24, 7), (0, -12, 8)]]:
                found = clash(book, values)
                first, basis = space(book)
                for at, number in enumerate(found):
                    wrong = found[:at] + [number + 1] + found[at + 1:]
                    free = all(filling[0].at(values[at][1]).sign == 0 for filling in basis)
                    if not free:
                        self.assertIs(is_clash(book, values, wrong), False)
                self.assertIs(is_clash(book, values, found[:-1]), False)
                self.assertIs(is_clash(book, values, found + [0]), False)

    def test_any_value(self):
        wrong = not_lists() + [[], [2], [2, -1, 0], (), "ab", [[2, -1]], {0: 2, 1: -1}]
        wrong += [[2, value] for value in not_numbers()] + [[value, -1] for value in not_numbers()]
        for value in wrong:
            self.assertIs(is_clash(ADDING, self.VALUES, value), False)
        self.assertIs(is_clash(ADDING, [(0, 0, 1)], [1]), True)
        self.assertIs(is_clash(ADDING, [(0, 0, 1)], [True]), False)
        self.assertIs(is_clash(ADDING, [], []), False)

    def test_worths_of_the_first_filling_count(self):
        book = Book(1, [SUMS, told(0, 2, 6)])
        self.assertIs(is_clash(book, [(0, 1, 4)], [1]), True)
        self.assertIs(is_clash(book, [(0, 1, 3)], [1]), False)
        self.assertIs(is_clash(book, [(0, 1, 4), (0, 2, 5)], [1, 1]), False)
        self.assertIs(is_clash(book, [(0, 1, 4), (0, 2, 5)], [1, -1]), True)


class Forced(unittest.TestCase):
    def test_small(self):
        self.assertEqual(as_words(forced(ADDING, [(0, 2, 6)], 0, -7)), "Ratio(-21, 1)")
        self.assertIsNone(forced(ADDING, [(0, 0, 0)], 0, 1))
        self.assertIsNone(forced(ADDING, [], 0, 1))
        self.assertEqual(forced(ADDING, [], 0, 0), Ratio(0))
        self.assertEqual(forced(ADDING, [(0, 3, 1)], 0, 10 ** 29), Ratio(10 ** 29, 3))
        self.assertEqual(forced(book=SPLIT, values=[(0, 5, 1), (1, 5, 3)], function=2, whole=0), Ratio(-2))
        self.assertIsNone(forced(SPLIT, [(0, 5, 1), (1, 5, 3)], 2, 1))
        self.assertEqual(forced(STAMPS, [(0, 1, 5), (0, 3, 9)], 0, 2), Ratio(4))
        self.assertIsNone(forced(STAMPS, [(0, 1, 5)], 0, 3))
        self.assertEqual(forced(STAMPS, [(0, -2, 5)], 0, 4), Ratio(-10))
        self.assertEqual(forced(Book(1, [SUMS, told(0, 2, 6)]), [], 0, 5), Ratio(15))

    def test_none_has_them_behind_all_others(self):
        bad = [(0, 0, 1)]
        check_bare(self, NoneHasThem, forced, ADDING, bad, 0, 1)
        check_bare(self, NoneHasThem, forced, ADDING, [(0, 2, 6), (0, 4, 11)], 0, 2)
        check_value(self, InvalidFunction, 1, forced, ADDING, bad, 1, None)
        check_value(self, InvalidWhole, None, forced, ADDING, bad, 0, None)
        check_bare(self, NobodyKeeps, forced, NONE, [(0, 0, 5)], 0, 1)
        check_bare(self, NotHeld, forced, LOOSE, bad, 0, 1)

    def test_random(self):
        draw = random.Random(73)
        seen = {True: 0, False: 0}
        for book in BOOKS * 8:
            first, basis = space(book)
            wholes = {(draw.randrange(book.functions), draw.randint(-8, 8)) for _ in range(draw.randint(0, 6))}
            values = [(f, n, added(one[f].at(n) for one in [first, *basis])) for f, n in sorted(wholes)]
            function, whole = draw.randrange(book.functions), draw.randint(-20, 20)
            found = unchanged(self, forced, book, values, function, whole)
            self.assertEqual(forced(book, as_tuples(values), function, whole), found)
            worth = through(book, values)[function].at(whole)
            for other in [worth + 1, worth - 7]:
                spot = (function, whole)
                if spot not in wholes:
                    is_free = through(book, [*values, (*spot, other)]) is not None
                    self.assertIs(found is None, is_free)
            self.assertTrue(found is None or found == worth)
            seen[found is None] += 1
        self.assertTrue(min(seen.values()) > 15, seen)


if __name__ == "__main__":
    unittest.main()
