"""[81] and [82]: plain fillings, and what holds functions plainly."""

import itertools
import random
import unittest

from brute import grow, row_at
from helpers import (
    as_tuples, as_words, check_bare, check_new, check_parameters, check_value, not_lists, not_numbers, unchanged,
)
from known import (
    ADDING, NOUGHT, ODD, ODDS, SAME, SPLIT, SQUARES, STAMPS, SUMS, bracket, differences, middles, random_line,
    repeating, told, wrong_books, wrong_fillings, wrong_lines,
)
from soughtrows.books import Book
from soughtrows.courses import Course
from soughtrows.directions import alone, order, pace
from soughtrows.errors import (
    InvalidBook, InvalidFilling, InvalidLine, InvalidNumbers, NobodyKeeps, NotHeld, NotPlainlyHeld,
)
from soughtrows.kept import value_at
from soughtrows.lines import Line
from soughtrows.plain import is_only_plain, is_plainly_held, plain_dimension, plain_space, plain_value
from soughtrows.ratios import Ratio
from soughtrows.spaces import dimension, is_kept, period

CUBES = Course([[0, 0, 0, 1]])
HALVES = Course([[Ratio(1, 2), Ratio(-2, 3)]])


def fan(many):
    """f in so many directions, of which no two are alike."""
    return Line(2, [(k - 3 if k != 3 else 9, 0, [1, k, k - 2]) for k in range(many)], [])


def plain_brute(book):
    """The dimension of the plain fillings, of degrees to 7, by going through a box; None if none keeps."""
    rows = {}
    for line in book.lines():
        for place in itertools.product(range(8), repeat=line.letters):
            grow(rows, row_at(line, place, [(1, 8)] * book.functions, [8] * book.functions))
    return None if (9,) in rows else 8 * book.functions - len(rows)


def random_number(draw):
    return draw.choice([Ratio(draw.randint(-9, 9), draw.randint(1, 9)), draw.randint(-5, 5)])


class PlainlyHeld(unittest.TestCase):
    def test_small(self):
        for book in [ADDING, STAMPS, SPLIT, Book(1, [SQUARES]), Book(1, [middles(2)]), Book(1, [bracket(7, 3)])]:
            self.assertIs(unchanged(self, is_plainly_held, book), True)
        for book in [Book(1, []), Book(2, [SUMS]), Book(3, [PARTED_TWICE]), Book(1, [told(0, 3, 1)]),
                     Book(1, [Line(1, [(1, 0, [1, 0]), (2, 0, [-1, 3])], [])]), Book(1, [Line(3, [], [])])]:
            self.assertIs(is_plainly_held(book), False)
        self.assertIs(is_plainly_held(book=ADDING), True)

    def test_paces_and_orders_that_are_not_good(self):
        line = repeating(13)
        self.assertEqual(min(pace(line, position) for position in alone(line)), 13)
        self.assertIs(is_plainly_held(Book(1, [line])), True)
        self.assertEqual(plain_dimension(Book(1, [line])), 1)
        for many in [7, 8]:
            self.assertEqual([order(fan(many), position) for position in alone(fan(many))], [many - 1] * many)
            self.assertIs(is_plainly_held(Book(1, [fan(many)])), True)
            self.assertEqual(plain_dimension(Book(1, [fan(many)])), plain_brute(Book(1, [fan(many)])))
        for book in [Book(1, [line]), Book(1, [fan(7)])]:
            check_bare(self, NotHeld, is_only_plain, book)

    def test_one_function_loose(self):
        self.assertIs(is_plainly_held(Book(2, [SUMS, repeating(40, 1)])), True)
        self.assertIs(is_plainly_held(Book(2, [SUMS, told(1, 0, 0)])), False)
        # One and the same direction in two functions: neither stands alone.
        self.assertIs(is_plainly_held(Book(2, [Line(1, [(1, 0, [1, 0]), (1, 1, [2, 0])], [])])), False)


class PlainValue(unittest.TestCase):
    def check(self, line, filling, numbers, wanted):
        found = unchanged(self, plain_value, line, filling, numbers)
        self.assertEqual(as_words(found), as_words(wanted))
        self.assertEqual(plain_value(line, tuple(filling), as_tuples(numbers)), found)

    def test_small(self):
        self.check(ODDS, [Course([[0, 0, 1]])], [Ratio(1, 2), 3], Ratio(6))
        self.check(SUMS, [SAME], [Ratio(1, 3), Ratio(-2, 7)], Ratio(0))
        self.check(SUMS, [Course([[1]])], [Ratio(1, 3), 0], Ratio(-1))
        self.check(SUMS, [Course([[0, 0, 1]])], [Ratio(1, 3), Ratio(1, 2)], Ratio(1, 3))
        self.check(SUMS, [NOUGHT], [5, -7], Ratio(0))
        self.check(told(0, 3, 7), [Course([[1, 1]])], [], Ratio(-3))
        self.check(Line(2, [], [(Ratio(1, 2), [1, 2]), (3, [0, 0])]), [NOUGHT], [Ratio(1, 2), Ratio(2, 3)],
                   Ratio(28, 9))
        self.check(Line(0, [], []), [SAME], [], Ratio(0))
        self.check(Line(3, [(2, 1, [1, 2, 3, 4])], [(1, [1, 1, 1])]), [NOUGHT, CUBES], [Ratio(1, 2), 1, -1],
                   Ratio(341, 4))
        self.assertEqual(plain_value(line=SUMS, filling=[SAME], numbers=[1, 2]), Ratio(0))

    def test_more_functions_than_the_line_names(self):
        self.check(SUMS, [CUBES, NOUGHT, SAME], [Ratio(1, 2), Ratio(1, 2)], Ratio(3, 4))
        self.check(SUMS, [CUBES, HALVES], [1, 1], Ratio(6))
        for filling in [[CUBES, ODD], [CUBES, NOUGHT, Course([[0, 1], [0, 2]])]]:
            check_value(self, InvalidFilling, filling, plain_value, SUMS, filling, [1, 1])

    def test_whole_numbers_as_kept(self):
        draw = random.Random(81)
        for _ in range(60):
            line = random_line(draw, 3, 5)
            filling = [Course([[random_number(draw) for _ in range(draw.randint(0, 8))]]) for _ in range(3)]
            place = [draw.randint(-9, 9) for _ in range(line.letters)]
            found = value_at(line, filling, place)
            self.check(line, filling, place, found)
            self.check(line, filling, [Ratio(number) for number in place], found)

    def test_refused(self):
        numbers = not_lists() + [[], [1], [1, 2, 3], [[1, 2]], "12", {0: 1, 1: 2}]
        numbers += [[1, value] for value in not_numbers()] + [(value, Ratio(1, 2)) for value in not_numbers()]
        fillings = wrong_fillings(1) + [[ODD], (ODD,), [Course([[0, 1], [0, 2]])]]
        wrong = {"line": (InvalidLine, wrong_lines()), "filling": (InvalidFilling, [[ODD], *fillings[:-3]]),
                 "numbers": (InvalidNumbers, numbers)}
        # Behind a line alone, a filling may have more courses than the line names functions.
        wrong["filling"][1].remove([SAME, SAME])
        check_parameters(self, plain_value, [("line", SUMS), ("filling", [SAME]), ("numbers", [1, 2])], wrong)
        check_value(self, InvalidFilling, [SAME], plain_value, Line(1, [(1, 2, [1, 0])], []), [SAME], [1])
        check_value(self, InvalidNumbers, [1], plain_value, told(0, 0, 1), [SAME], [1])


PARTED_TWICE = Line(2, [(1, 0, [1, 1, 0]), (-1, 1, [1, 0, 0]), (-1, 2, [2, 0, 0])], [])
ONLY_ODD = Book(1, [ODDS, told(0, 1, 1), told(0, 2, 0)])
WITH_RESTS = [Book(1, [Line(2, SUMS.terms(), [(-2, [1, 1])])]), Book(1, [Line(2, ODDS.terms(), [(-12, [1, 1])])]),
              Book(1, [Line(2, middles(3).terms(), [(-54, [0, 2])])]), Book(1, [Line(1, [(1, 0, [2, 1])], [(1, [3])])]),
              Book(3, [Line(2, SPLIT.lines()[0].terms(), [(Ratio(1, 2), [1, 1]), (1, [0, 3])])])]


class PlainSpace(unittest.TestCase):
    def check(self, book, draw):
        """The space agrees with going through a box, and keeps all lines at fractions."""
        wanted = plain_brute(book)
        self.assertEqual(as_words(unchanged(self, plain_dimension, book)), as_words(wanted))
        found = unchanged(self, plain_space, book)
        if wanted is None:
            self.assertIsNone(found)
            return
        self.assertIsInstance(found, tuple)
        first, basis = found
        self.assertEqual([type(basis), len(basis)], [list, wanted])
        for filling in [first, *basis]:
            self.assertEqual([type(filling), len(filling)], [list, book.functions])
            self.assertTrue(all(isinstance(course, Course) and course.period == 1 for course in filling))
        for line in book.lines():
            bare = Line(line.letters, line.terms(), [])
            for _ in range(6):
                numbers = [random_number(draw) for _ in range(line.letters)]
                self.assertEqual(plain_value(line, first, numbers), Ratio(0))
                self.assertTrue(all(plain_value(bare, filling, numbers) == Ratio(0) for filling in basis))
        rows = {}
        for filling in basis:
            numbers = [course.at(whole) for course in filling for whole in range(8)]
            grow(rows, {at: number.top * pow(number.bottom, -1, 2 ** 61 - 1) for at, number in enumerate(numbers)
                        if number.sign})
        self.assertEqual(len(rows), len(basis))
        check_new(self, found, plain_space(book))

    def test_known(self):
        draw = random.Random(82)
        for book, many in [(ADDING, 1), (STAMPS, 1), (SPLIT, 3), (Book(1, [SQUARES]), 1), (Book(1, [middles(3)]), 2),
                           (Book(1, [differences(4, 3)]), 4), (Book(1, [repeating(5)]), 1), (Book(1, [bracket(3, 1)]), 0),
                           (ONLY_ODD, None), (Book(1, [SUMS, told(0, 0, 1)]), None), (Book(1, [SUMS, told(0, 2, 1)]), 0),
                           (Book(1, [bracket(1, 0, [(1, [2])])]), 0), (Book(1, [bracket(2, 0, [(1, [2])])]), 0),
                           (Book(1, [bracket(2, 0), bracket(2, 1, [(-1, [0])])]), None), (Book(1, [fan(8)]), 0)]:
            self.assertEqual(as_words(plain_dimension(book)), as_words(many))
            self.check(book, draw)
        self.assertEqual(plain_space(Book(1, [bracket(2, 0, [(1, [2])])])), ([Course([[0, 0, Ratio(-1, 4)]])], []))
        self.assertEqual(plain_dimension(book=STAMPS), 1)

    def test_rests(self):
        draw = random.Random(83)
        for book in WITH_RESTS:
            self.check(book, draw)
        self.assertEqual(plain_space(WITH_RESTS[0])[0][0].degree, 2)
        self.assertIsNone(plain_space(Book(1, [Line(2, SUMS.terms(), [(1, [3, 0])])])))

    def test_random(self):
        draw = random.Random(84)
        seen = {}
        while min(seen.values(), default=0) < 4 or len(seen) < 4:
            functions = draw.choice([1, 1, 2, 3])
            base = [draw.choice([SUMS, ODDS, fan(5), middles(13), differences(3, 14)])] if draw.random() < 0.6 else []
            book = Book(functions, base + [random_line(draw, functions, 4) for _ in range(draw.randint(1, 2))])
            if is_plainly_held(book):
                self.check(book, draw)
                many = min(3, -1 if plain_dimension(book) is None else plain_dimension(book))
                seen[many] = seen.get(many, 0) + 1

    def test_held_books(self):
        for book in [ADDING, STAMPS, SPLIT, Book(1, [middles(3)]), Book(1, [differences(2, 3)]), Book(1, [repeating(4)])]:
            self.assertIs(is_plainly_held(book), True)
            self.assertIs(plain_dimension(book) == dimension(book), is_only_plain(book))

    def test_not_plainly_held(self):
        for book in [Book(1, []), Book(2, [SUMS]), Book(1, [told(0, 0, 1)]), Book(2, [SUMS, told(0, 0, 1)])]:
            check_bare(self, NotPlainlyHeld, plain_dimension, book)
            check_bare(self, NotPlainlyHeld, plain_space, book)
        for function in [is_plainly_held, plain_dimension, plain_space, is_only_plain]:
            check_parameters(self, function, [("book", ADDING)], {"book": (InvalidBook, wrong_books())})


class OnlyPlain(unittest.TestCase):
    def test_small(self):
        for book, wanted in [(ADDING, True), (STAMPS, False), (SPLIT, True), (Book(1, [middles(1)]), True),
                             (Book(1, [middles(2)]), False), (Book(1, [repeating(1)]), True), (ONLY_ODD, False),
                             (Book(1, [STAMPS.lines()[0], told(0, 1, 0)]), False),
                             (Book(1, [STAMPS.lines()[0], told(0, 1, 2), told(0, 2, 4)]), True),
                             (Book(2, [SUMS, repeating(3, 1)]), False), (Book(1, [bracket(1, 0, [(1, [3])])]), True)]:
            self.assertIs(unchanged(self, is_only_plain, book), wanted)
            self.assertIs(period(book) == 1, wanted)
        self.assertIs(is_only_plain(book=ADDING), True)

    def test_states(self):
        for book in [Book(1, []), Book(1, [bracket(2, 0)]), Book(2, [SUMS, told(0, 0, 1)])]:
            check_bare(self, NotHeld, is_only_plain, book)
        for book in [Book(1, [SUMS, told(0, 0, 1)]), Book(1, [bracket(1, 0), told(0, 1, 1)])]:
            self.assertIs(is_kept(book), False)
            check_bare(self, NobodyKeeps, is_only_plain, book)


if __name__ == "__main__":
    unittest.main()
