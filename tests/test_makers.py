"""[83] and [84]: the known lines, and what keeps them."""

import unittest

import known
from helpers import as_words, check_new, check_parameters, check_value, not_counts
from soughtrows.books import Book
from soughtrows.courses import Course
from soughtrows.errors import InvalidMany
from soughtrows.kept import keeps
from soughtrows.lines import Line
from soughtrows.makers import differences, middles, parted, squares, sums
from soughtrows.ratios import Ratio
from soughtrows.spaces import degree, dimension, is_space, period
from soughtrows.ties import alike

WRONG = not_counts() + [0, 10 ** 9]


class Makers(unittest.TestCase):
    def check(self, line, terms):
        """The line has just these terms, and no rest."""
        self.assertEqual(line.letters, 2)
        self.assertEqual(as_words(line.terms()), as_words(sorted(
            [(Ratio(number), function, argument) for number, function, argument in terms], key=lambda term: term[1:])))
        self.assertEqual(line.rest(), [])

    def test_sums(self):
        self.check(sums(), [(1, 0, [1, 1, 0]), (-1, 0, [1, 0, 0]), (-1, 0, [0, 1, 0])])
        self.assertEqual(sums(), known.SUMS)

    def test_squares(self):
        self.check(squares(), [(1, 0, [1, 1, 0]), (1, 0, [1, -1, 0]), (-2, 0, [1, 0, 0]), (-2, 0, [0, 1, 0])])

    def test_parted(self):
        self.check(parted(), [(1, 0, [1, 1, 0]), (-1, 1, [1, 0, 0]), (-1, 2, [0, 1, 0])])

    def test_middles(self):
        for many in range(1, 13):
            self.check(middles(many), [(1, 0, [1, many, 0]), (1, 0, [1, -many, 0]), (-2, 0, [1, 0, 0])])
        self.assertEqual(middles(many=3), known.middles(3))

    def test_differences(self):
        numbers = {1: [-1, 1], 2: [1, -2, 1], 3: [-1, 3, -3, 1], 4: [1, -4, 6, -4, 1]}
        for many in range(1, 5):
            for step in range(1, 13):
                wanted = [(number, 0, [1, at * step, 0]) for at, number in enumerate(numbers[many])]
                self.check(differences(many, step), wanted)
        self.assertEqual(differences(step=5, many=3), known.differences(3, 5))

    def test_each_time_a_new_line(self):
        for make in [sums, squares, parted, lambda: middles(2), lambda: differences(2, 2)]:
            self.assertEqual(make(), make())
            self.assertIsInstance(make(), Line)
            line = make()
            check_new(self, line.terms(), line.terms())

    def test_refused(self):
        check_parameters(self, middles, [("many", 12)], {"many": (InvalidMany, WRONG + [13, -1])})
        wrong = {"many": (InvalidMany, WRONG + [5, 12]), "step": (InvalidMany, WRONG + [13, 14])}
        check_parameters(self, differences, [("many", 4), ("step", 12)], wrong)
        check_parameters(self, differences, [("many", 1), ("step", 1)], wrong)
        check_value(self, InvalidMany, 5, differences, 5, 13)
        check_value(self, InvalidMany, 13, differences, 4, 13)
        for make in [sums, squares, parted]:
            self.assertEqual(make.__code__.co_argcount, 0)


class Facts(unittest.TestCase):
    def test_dimensions(self):
        self.assertEqual(dimension(Book(1, [sums()])), 1)
        self.assertEqual(dimension(Book(1, [squares()])), 1)
        self.assertEqual(dimension(Book(3, [parted()])), 3)
        for many in range(1, 13):
            self.assertEqual(dimension(Book(1, [middles(many)])), 2 * many)
        for many, steps in [(1, 12), (2, 12), (3, 6), (4, 6)]:
            for step in range(1, steps + 1):
                self.assertEqual(dimension(Book(1, [differences(many, step)])), many * step)

    def test_what_keeps_them(self):
        self.assertIs(is_space(Book(1, [sums()]), ([Course([[]])], [[Course([[0, 1]])]])), True)
        self.assertIs(is_space(Book(1, [squares()]), ([Course([[]])], [[Course([[0, 0, 1]])]])), True)
        one, same, nought = Course([[1]]), Course([[0, 1]]), Course([[]])
        basis = [[same, same, same], [one, one, nought], [one, nought, one]]
        self.assertIs(is_space(Book(3, [parted()]), ([nought] * 3, basis)), True)

    def test_differences(self):
        for many, step in [(1, 1), (2, 3), (3, 4), (4, 6), (1, 12), (2, 12)]:
            book = Book(1, [differences(many, step)])
            self.assertEqual([period(book), degree(book)], [step, many - 1])
        self.assertIs(keeps(differences(3, 4), [Course([[1, 2, 3], [0, 1]])]), True)
        self.assertIs(keeps(differences(3, 4), [Course([[1], [0], [2]])]), False)
        self.assertIs(keeps(differences(3, 4), [Course([[0, 0, 0, 1]])]), False)

    def test_middles_and_differences(self):
        for many in range(1, 13):
            self.assertIs(alike(Book(1, [middles(many)]), Book(1, [differences(2, many)])), True)
        self.assertIs(alike(Book(1, [middles(3)]), Book(1, [differences(2, 4)])), False)


if __name__ == "__main__":
    unittest.main()
