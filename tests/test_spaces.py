"""[51] to [55], [84]: all fillings that keep a book."""

import itertools
import random
import unittest

from brute import brute_dimension, parted_books, small_books
from helpers import as_tuples, as_words, check_bare, check_new, check_parameters, not_lists, unchanged
from known import (
    ADDING, NOUGHT, ODD, ODDS, SAME, SPLIT, SQUARES, STAMPS, SUMS, bracket, differences, is_kept_near, middles,
    repeating, summed_fillings, told, wrong_books, wrong_courses,
)
from soughtrows.books import Book, renamed
from soughtrows.courses import Course, plus, times
from soughtrows.errors import InvalidBook, NobodyKeeps, NotHeld
from soughtrows.lines import Line, put
from soughtrows.lines import times as line_times
from soughtrows.nones import is_none_blend, none_blend
from soughtrows.ratios import Ratio
from soughtrows.spaces import degree, dimension, is_kept, is_space, period, space

NOBODY = [Book(1, [SUMS, told(0, 0, 1)]), Book(1, [ODDS, told(0, 0, 1)]), Book(1, [SUMS, Line(0, [], [(1, [])])]),
          Book(1, [SUMS, told(0, 1, 2), told(0, 40, 81)]), Book(2, [SUMS, repeating(4, 1), told(1, -3, 1), told(1, 5, 2)]),
          Book(1, [bracket(1, 0), bracket(2, 1, [(1, [1])])]), Book(1, [bracket(1, 0, [(1, [1])]), SUMS, told(0, 3, 3)]),
          Book(1, [Line(2, [(1, 0, [1, 0, 0])], [(1, [0, 1])])]), Book(1, [Line(2, SQUARES.terms(), [(1, [1, 1])])])]


def added(one, two, number=1):
    """A filling, and so many times another one."""
    return [plus(course, times(other, number)) for course, other in zip(one, two)]


class Known(unittest.TestCase):
    def check(self, book, *measures):
        """Dimension, period and degree; and the space is one."""
        self.assertEqual(as_words([dimension(book), period(book), degree(book)]), as_words(list(measures)))
        self.assertIs(is_kept(book), True)
        self.check_space(book)

    def check_space(self, book):
        found = unchanged(self, space, book)
        self.assertIs(is_space(book, found), True)
        first, basis = found
        self.assertEqual([type(found), type(first), type(basis)], [tuple, list, list])
        self.assertTrue(all(isinstance(filling, list) for filling in basis))
        self.assertEqual(len(basis), dimension(book))
        draw = random.Random(52)
        for _ in range(3):
            numbers = [draw.randint(-3, 3) for _ in basis]
            self.assertTrue(is_kept_near(book.lines(), summed_fillings(first, basis, numbers), 3))
        check_new(self, found, space(book))

    def test_examples(self):
        self.check(ADDING, 1, 1, 1)
        self.check(STAMPS, 2, 2, 1)
        self.check(Book(1, [SUMS, told(0, 0, 0)]), 1, 1, 1)
        self.check(Book(1, [SUMS, told(0, 1, 0)]), 0, 1, -1)
        self.check(Book(1, [SUMS, told(0, 3, 2)]), 0, 1, 1)

    def test_makers(self):
        self.check(Book(1, [SQUARES]), 1, 1, 2)
        self.check(SPLIT, 3, 1, 1)
        for many in range(1, 13):
            self.check(Book(1, [middles(many)]), 2 * many, many, 1)
        for many, step in [(1, 1), (1, 7), (1, 12), (2, 1), (2, 5), (2, 12), (3, 1), (3, 2), (3, 4), (4, 1)]:
            self.check(Book(1, [differences(many, step)]), many * step, step, many - 1)

    def test_middles_are_differences(self):
        for many in range(1, 7):
            for one, two in itertools.permutations([middles(many), differences(2, many)]):
                self.assertIs(is_space(Book(1, [one]), space(Book(1, [two]))), True)

    def test_what_the_makers_keep(self):
        square = Course([[0, 0, 1]])
        self.assertIs(is_space(Book(1, [SQUARES]), ([NOUGHT], [[times(square, 5)]])), True)
        self.assertIs(is_space(Book(1, [differences(3, 1)]), ([square], [[Course([[1]])], [SAME], [square]])), True)
        one = Course([[1]])
        basis = [[SAME, SAME, SAME], [one, one, NOUGHT], [one, NOUGHT, one]]
        self.assertIs(is_space(SPLIT, ([NOUGHT] * 3, basis)), True)
        self.assertIs(is_space(SPLIT, ([NOUGHT] * 3, [[SAME, SAME, NOUGHT]] + basis[1:])), False)

    def test_by_remainders(self):
        for step in [1, 2, 5, 8, 12]:
            self.check(Book(1, [repeating(step)]), step, step, 0)
        self.check(Book(1, [repeating(6), repeating(4)]), 2, 2, 0)
        self.check(Book(1, [repeating(5), repeating(7)]), 1, 1, 0)
        self.check(Book(2, [repeating(4), repeating(6, 1)]), 10, 12, 0)
        self.check(Book(3, [repeating(7), repeating(8, 1), repeating(9, 2)]), 24, 504, 0)
        self.check(Book(1, [repeating(6), middles(2)]), 2, 2, 0)

    def test_classes(self):
        for size in [2, 3, 5]:
            lines = [bracket(size, left) for left in range(size)]
            self.check(Book(1, lines), 0, 1, -1)
            self.check(Book(1, lines[1:] + [bracket(size, 0, [(-1, [0])])]), 0, size, 0)
            self.check(Book(1, lines[1:] + [bracket(size, 0, [(1, [3])])]), 0, size, 3)
            for left in range(size):
                others = lines[:left] + lines[left + 1:]
                self.check(Book(1, others + [bracket(size, left - size, [(2, [2])])]), 0, size, 2)
        even = Line(2, [(1, 0, [2, 2, 0]), (-1, 0, [2, 0, 0]), (-1, 0, [0, 2, 0])], [])
        self.check(Book(1, [even, bracket(2, 1)]), 1, 2, 1)

    def test_rests(self):
        self.check(Book(1, [bracket(1, 0, [(-1, [3]), (2, [1])])]), 0, 1, 3)
        self.check(Book(1, [Line(2, SUMS.terms(), [(-2, [1, 1])])]), 1, 1, 2)
        self.check(Book(1, [Line(2, SUMS.terms(), [(-3, [2, 1]), (-3, [1, 2])])]), 1, 1, 3)
        self.check(Book(1, [Line(2, repeating(4).terms(), [(-8, [1, 0])])]), 4, 4, 1)
        self.check(Book(1, [Line(2, middles(3).terms(), [(-18, [0, 2])])]), 6, 3, 2)
        self.assertIs(is_kept(Book(1, [Line(2, middles(3).terms(), [(-18, [2, 1])])])), False)
        self.check(Book(1, [Line(2, middles(3).terms(), [(-54, [1, 2])])]), 6, 3, 3)
        self.check(Book(1, [Line(3, [*put(SUMS, 3, [[1, 0, 0, 0], [0, 1, 1, 2]]).terms()],
                                 [(-2, [1, 1, 0]), (-2, [1, 0, 1]), (-4, [1, 0, 0])])]), 1, 1, 2)

    def test_two_and_three_functions(self):
        self.check(Book(2, [SUMS, repeating(3, 1)]), 4, 3, 1)
        joined = Line(2, [(1, 0, [1, 0, 0]), (-1, 1, [1, 0, 0])], [])
        self.check(Book(2, [SUMS, repeating(3, 1), joined]), 0, 1, -1)
        # h(x) = f(2x + 1) + g(3x) is bounded: so the growth of f takes that of g with it.
        third = Line(1, [(1, 2, [1, 0]), (-1, 0, [2, 1]), (-1, 1, [3, 0])], [])
        self.check(Book(3, [ODDS, middles(2, 1), repeating(6, 2), third]), 4, 2, 1)

    def test_told_values(self):
        wholes = [0, 40, -3, 6, 15]
        for many in range(1, 6):
            lines = [told(0, whole, 2 * whole + 1) for whole in wholes[:many]]
            self.check(Book(1, [middles(4)] + lines), 8 - many, 4, 1)
        self.check(Book(1, [SUMS, told(0, 7, Ratio(3, 2))]), 0, 1, 1)

    def test_lines_of_no_letter(self):
        self.check(Book(1, [SUMS, Line(0, [], [])]), 1, 1, 1)
        self.check(Book(1, [ODDS, Line(0, [(1, 0, [1]), (-1, 0, [3])], [(2, [])])]), 1, 2, 1)
        self.check(Book(2, [SUMS, repeating(2, 1), Line(0, [(1, 0, [3]), (-1, 1, [3])], [])]), 2, 2, 1)

    def test_needless_things(self):
        for lines in [[SUMS, SUMS], [SUMS, line_times(SUMS, 3)], [SUMS, put(SUMS, 3, [[2, 0, 1, 0], [0, 3, 0, 1]])],
                      [Line(1, [(1, 0, [-1, 0]), (1, 0, [1, 0])], []), SUMS], [SUMS, Line(3, [], [])]]:
            self.check(Book(1, lines), 1, 1, 1)


class Random(unittest.TestCase):
    def test_by_brute_force(self):
        seen = {}
        for book in small_books(51, 90):
            told_dimension = brute_dimension(book)
            self.assertIs(is_kept(book), told_dimension is not None)
            seen[told_dimension] = seen.get(told_dimension, 0) + 1
            if told_dimension is None:
                check_bare(self, NobodyKeeps, dimension, book)
            else:
                Known.check_space(self, book)
                self.assertEqual(dimension(book), told_dimension)
        self.assertTrue(len(seen) > 4 and seen[None] > 5, seen)

    def test_held_by_several_classes(self):
        seen = {}
        for book in parted_books(54, 80):
            told_dimension = brute_dimension(book)
            self.assertIs(is_kept(book), told_dimension is not None)
            seen[told_dimension] = seen.get(told_dimension, 0) + 1
            if told_dimension is None:
                self.assertIs(is_none_blend(book, none_blend(book)), True)
            else:
                Known.check_space(self, book)
                self.assertEqual(dimension(book), told_dimension)
        self.assertTrue(len(seen) > 3 and seen[None] > 5, seen)

    def test_exchanged_and_changed(self):
        for book in small_books(53, 12):
            others = [Book(book.functions, book.lines()[::-1]), renamed(book, list(range(book.functions))[::-1])]
            others.append(Book(book.functions, [line_times(line, Ratio(-3, 2)) for line in book.lines()]))
            others.append(Book(book.functions, [put(line, 2, [[1, 3, 2], [0, 1, -1]]) if line.letters == 2 else line
                                                for line in book.lines()]))
            for other in others:
                self.assertEqual(is_kept(other), is_kept(book))
                if is_kept(book):
                    self.assertEqual([dimension(other), period(other), degree(other)],
                                     [dimension(book), period(book), degree(book)])

    def test_a_space_from_elsewhere(self):
        for book in small_books(54, 25):
            if is_kept(book):
                first, basis = space(book)
                found = basis[::-1]
                for at in range(1, len(found)):
                    found[at] = added(found[at], found[at - 1], 2)
                for filling in basis:
                    first = added(first, filling, -1)
                self.assertIs(is_space(book, (first, found)), True)
                self.assertIs(unchanged(self, is_space, book, as_tuples((first, found))), True)


class IsSpace(unittest.TestCase):
    BOOKS = [STAMPS, SPLIT, Book(1, [middles(3)]), Book(2, [ODDS, Line(2, repeating(2, 1).terms(), [(-4, [1, 0])])])]

    def test_basis_in_another_sequence(self):
        for book in self.BOOKS:
            first, basis = space(book)
            for other in list(itertools.permutations(basis))[:12]:
                self.assertIs(is_space(book, (first, list(other))), True)
            self.assertIs(is_space(book, (tuple(first), tuple(basis))), True)

    def test_sums_of_its_fillings(self):
        for book in self.BOOKS:
            first, basis = space(book)
            self.assertIs(is_space(book, (added(first, basis[0]), basis)), True)
            self.assertIs(is_space(book, (first, [added(basis[0], basis[1], Ratio(1, 3))] + basis[1:])), True)
            self.assertIs(is_space(book, (first, [added(basis[0], basis[0], 4)] + basis[1:])), True)
            self.assertIs(is_space(book, (first, [added(basis[0], basis[0], -1)] + basis[1:])), False)
            self.assertIs(is_space(book, (first, [basis[1]] + basis[1:])), False)
            self.assertIs(is_space(book, (first, basis[1:] + [added(basis[0], basis[1], 5)])), True)

    def test_left_out_and_put_in_twice(self):
        for book in self.BOOKS:
            first, basis = space(book)
            for at in range(len(basis)):
                self.assertIs(is_space(book, (first, basis[:at] + basis[at + 1:])), False)
                self.assertIs(is_space(book, (first, basis[:at] + [basis[at - 1]] + basis[at + 1:])), False)
                self.assertIs(is_space(book, (first, basis + [basis[at]])), False)
            self.assertIs(is_space(book, (first, basis + [[NOUGHT] * book.functions])), False)
            self.assertIs(is_space(book, (first, [])), False)

    def test_what_does_not_keep(self):
        for book in self.BOOKS:
            first, basis = space(book)
            for at in range(book.functions):
                for more in [Course([[0, 0, 0, 1]]), Course([[1]] + [[]] * 4), Course([[]] * 6 + [[0, 1]])]:
                    wrong = [more if k == at else NOUGHT for k in range(book.functions)]
                    self.assertIs(is_space(book, (added(first, wrong), basis)), False)
                    self.assertIs(is_space(book, (first, [added(basis[0], wrong)] + basis[1:])), False)
                    self.assertIs(is_space(book, (first, [wrong] + basis[1:])), False)
        self.assertIs(is_space(ADDING, ([ODD], [[SAME]])), False)
        for course in [ODD, Course([[0, 1, 1]]), Course([[1, 1]]), Course([[0, 1], [0, 2]])]:
            self.assertIs(is_space(ADDING, ([NOUGHT], [[course]])), False)

    def test_with_rests(self):
        book = Book(1, [Line(2, SUMS.terms(), [(-2, [1, 1])])])
        square = Course([[0, 0, 1]])
        self.assertIs(is_space(book, ([square], [[SAME]])), True)
        self.assertIs(is_space(book, ([plus(square, SAME)], [[times(SAME, -3)]])), True)
        self.assertIs(is_space(book, ([square], [[square]])), False)
        self.assertIs(is_space(book, ([SAME], [[SAME]])), False)
        self.assertIs(is_space(book, ([times(square, 2)], [[SAME]])), False)

    def test_dimension_nought(self):
        book = Book(1, [SUMS, told(0, 2, 6)])
        self.assertIs(is_space(book, ([times(SAME, 3)], [])), True)
        self.assertIs(is_space(book, ([times(SAME, 3)], ())), True)
        self.assertIs(is_space(book, ([SAME], [])), False)
        self.assertIs(is_space(book, ([times(SAME, 3)], [[NOUGHT]])), False)
        self.assertIs(is_space(book, ([times(SAME, 3)], [[SAME]])), False)

    def test_great_courses(self):
        wide = Course([[k, 1, 2, 3, 4, 5, 6, 7] for k in range(60)])
        big = Book(3, [Line(3, [(1, k, [1, 1, 1, 0]) for k in range(3)], []), SUMS, repeating(7, 1), repeating(8, 2)])
        self.assertIs(is_space(big, ([wide] * 3, [])), False)
        self.assertIs(is_space(ADDING, ([wide], [[wide]])), False)
        self.assertIs(is_space(ADDING, ([NOUGHT], [[wide]])), False)

    def test_any_value(self):
        wrong = not_lists() + [[], (), [[NOUGHT], [[SAME]]], ([NOUGHT],), ([NOUGHT], [[SAME]], []), (NOUGHT, [[SAME]]),
                               ([NOUGHT], [SAME]), ([NOUGHT], [[SAME, SAME]]), ([NOUGHT, SAME], [[SAME]]),
                               ([], [[SAME]]), ([NOUGHT], [[]]), ([[[]]], [[SAME]]), ([NOUGHT], SAME), "ab",
                               ([NOUGHT], {0: [SAME]}), {0: [NOUGHT], 1: [[SAME]]}]
        wrong += [([NOUGHT], [[value]]) for value in wrong_courses()]
        wrong += [([value], [[SAME]]) for value in wrong_courses()]
        wrong += [([NOUGHT], value) for value in not_lists()] + [(value, [[SAME]]) for value in not_lists()]
        for value in wrong:
            self.assertIs(is_space(ADDING, value), False)
        self.assertIs(is_space(book=ADDING, value=([NOUGHT], [[SAME]])), True)

    def test_nobody(self):
        for book in NOBODY:
            for filling in [NOUGHT, SAME]:
                self.assertIs(is_space(book, ([filling] * book.functions, [])), False)
            self.assertIs(is_space(book, None), False)


class Errors(unittest.TestCase):
    def test_nobody(self):
        for book in NOBODY:
            self.assertIs(unchanged(self, is_kept, book), False)
            for function in [dimension, period, degree, space]:
                check_bare(self, NobodyKeeps, function, book)

    def test_not_held_comes_first(self):
        for book in [Book(1, []), Book(2, [SUMS]), Book(1, [bracket(2, 0)]), Book(1, [repeating(13)]),
                     Book(2, [SUMS, told(0, 0, 1)]), Book(1, [told(0, 0, 1), told(0, 0, 2)])]:
            for function in [is_kept, dimension, period, degree, space]:
                check_bare(self, NotHeld, function, book)
            for value in [None, ([NOUGHT], []), ([NOUGHT] * book.functions, [])]:
                check_bare(self, NotHeld, is_space, book, value)

    def test_refused(self):
        wrong = {"book": (InvalidBook, wrong_books())}
        for function in [is_kept, dimension, period, degree, space]:
            check_parameters(self, function, [("book", STAMPS)], wrong)
        check_parameters(self, is_space, [("book", STAMPS), ("value", None)], wrong)


if __name__ == "__main__":
    unittest.main()
