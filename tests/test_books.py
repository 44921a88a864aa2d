"""[6], [7], [25], [26]: books, and blends."""

import itertools
import random
import unittest

from helpers import (
    as_tuples, as_words, check_new, check_parameters, check_too_many, check_value, not_counts, not_integers, not_lists,
    not_numbers, unchanged,
)
from soughtrows.books import Book, is_blend, renamed, said, with_line, without_line
from soughtrows.errors import (
    InvalidBlend, InvalidBook, InvalidFunctions, InvalidLine, InvalidLines, InvalidOrder, InvalidPosition,
)
from soughtrows.lines import Line, instance, plus, times
from soughtrows.ratios import Ratio

SUMS = Line(2, [(1, 0, [1, 1, 0]), (-1, 0, [1, 0, 0]), (-1, 0, [0, 1, 0])], [])
SHIFTED = Line(0, [(1, 1, [5])], [(-2, [])])
THIRD = Line(1, [(1, 2, [1, 0])], [(1, [1])])
NOUGHT = Line(1, [], [])
BOOK = Book(2, [SUMS, SHIFTED])


def wrong_lines():
    return not_lists() + [[], [SUMS], (SUMS,), Line, BOOK, "line"]


def wrong_books():
    return not_lists() + [[], [BOOK], (BOOK,), Book, SUMS, (2, []), "book"]


def one_of(function):
    return Line(0, [(1, function, [0])], [])


class Books(unittest.TestCase):
    def test_functions_and_lines(self):
        for functions in [1, 2, 3]:
            for many in [0, 1, 6]:
                for shape in [list, tuple]:
                    book = Book(functions, shape([SUMS] * many))
                    self.assertEqual((book.functions, book.lines()), (functions, [SUMS] * many))
                    self.assertIs(type(book.functions), int)
        self.assertEqual(Book(3, [THIRD, SUMS]).lines(), [THIRD, SUMS])
        self.assertEqual(Book(lines=[SUMS], functions=1).functions, 1)
        with self.assertRaises(AttributeError):
            BOOK.functions = 1

    def test_seven_lines(self):
        for wrong in [[SUMS] * 7, (SUMS,) * 7, [NOUGHT] * 8]:
            check_value(self, InvalidLines, wrong, Book, 1, wrong)

    def test_a_function_too_much(self):
        for functions, named in itertools.product([1, 2, 3], range(3)):
            lines = [NOUGHT, one_of(named)]
            if named < functions:
                self.assertEqual(Book(functions, lines).lines(), lines)
            else:
                check_value(self, InvalidLines, lines, Book, functions, lines)

    def test_named_by_plain_terms_alone(self):
        joined = Line(0, [(1, 2, [0]), (-1, 2, [0]), (0, 1, [3])], [])
        self.assertEqual(Book(1, [joined]).lines(), [Line(0, [], [])])

    def test_refused(self):
        lines = not_lists() + [SUMS, [SHIFTED], [SUMS, THIRD]] + [[SUMS, value] for value in wrong_lines()]
        wrong = {"functions": (InvalidFunctions, not_counts() + [0, 4, 10 ** 20, Ratio(2)]),
                 "lines": (InvalidLines, lines)}
        check_parameters(self, Book, [("functions", 1), ("lines", [SUMS])], wrong)

    def test_copies(self):
        lines = [SUMS]
        book = Book(1, lines)
        lines.append(SUMS)
        book.lines().append(SUMS)
        book.lines().clear()
        self.assertEqual(book.lines(), [SUMS])
        check_new(self, lines, book.lines(), book.lines())

    def test_equal(self):
        again = Line(2, [(-1, 0, [0, 1, 0]), (-1, 0, [1, 0, 0]), (1, 0, [1, 1, 0])], [(0, [0, 0])])
        self.assertIs(Book(2, [again, SHIFTED]) == BOOK, True)
        self.assertIs(Book(2, (again, SHIFTED)) != BOOK, False)
        for other in [Book(3, [SUMS, SHIFTED]), Book(2, [SHIFTED, SUMS]), Book(2, [SUMS]), Book(2, []),
                      Book(2, [SUMS, SHIFTED, SHIFTED]), Book(2, [SUMS, times(SHIFTED, 2)])]:
            self.assertIs(BOOK == other, False)
            self.assertIs(BOOK != other, True)
        for value in wrong_books():
            self.assertIs(BOOK == value, False)
            self.assertIs(value == BOOK, False)

    def test_methods_are_its_own(self):
        for name in ["__init__", "functions", "lines", "__eq__"]:
            self.assertIn(name, vars(Book))


class BooksOfBooks(unittest.TestCase):
    def test_with_line(self):
        self.assertEqual(with_line(Book(2, [SUMS]), SHIFTED), BOOK)
        self.assertEqual(with_line(BOOK, SUMS), Book(2, [SUMS, SHIFTED, SUMS]))
        self.assertEqual(with_line(book=Book(1, []), line=NOUGHT), Book(1, [NOUGHT]))
        self.assertEqual(unchanged(self, with_line, Book(1, [SUMS] * 5), SUMS), Book(1, [SUMS] * 6))

    def test_with_line_refused(self):
        wrong = {"book": (InvalidBook, wrong_books()), "line": (InvalidLine, wrong_lines() + [SHIFTED, THIRD])}
        check_parameters(self, with_line, [("book", Book(1, [SUMS])), ("line", SUMS)], wrong)
        check_value(self, InvalidLine, THIRD, with_line, BOOK, THIRD)
        full = Book(1, [SUMS] * 6)
        check_too_many(self, "lines", 6, with_line, full, SUMS)
        check_value(self, InvalidLine, SHIFTED, with_line, full, SHIFTED)
        check_value(self, InvalidLine, None, with_line, full, None)
        self.assertEqual(full, Book(1, [SUMS] * 6))

    def test_without_line(self):
        self.assertEqual(without_line(BOOK, 0), Book(2, [SHIFTED]))
        self.assertEqual(without_line(BOOK, 1), Book(2, [SUMS]))
        self.assertEqual(without_line(book=Book(1, [SUMS]), position=0), Book(1, []))
        three = Book(3, [SUMS, SHIFTED, THIRD])
        self.assertEqual(unchanged(self, without_line, three, 1), Book(3, [SUMS, THIRD]))
        self.assertEqual(without_line(Book(1, [SUMS, SUMS]), 0), Book(1, [SUMS]))

    def test_without_line_refused(self):
        wrong = {"book": (InvalidBook, wrong_books()),
                 "position": (InvalidPosition, not_counts() + [2, 3, 10 ** 20, Ratio(0)])}
        check_parameters(self, without_line, [("book", BOOK), ("position", 1)], wrong)
        check_value(self, InvalidPosition, 0, without_line, Book(1, []), 0)
        check_value(self, InvalidPosition, -1, without_line, BOOK, -1)

    def test_renamed(self):
        self.assertEqual(renamed(BOOK, [0, 1]), BOOK)
        self.assertEqual([line.terms() for line in renamed(BOOK, [1, 0]).lines()],
                         [[(number, 1, argument) for number, _, argument in SUMS.terms()], [(Ratio(1), 0, [5])]])
        self.assertEqual(renamed(Book(1, [SUMS]), [0]), Book(1, [SUMS]))
        line = Line(1, [(1, 0, [1, 0]), (2, 1, [0, 0]), (3, 2, [5, 0])], [(1, [1])])
        for order in itertools.permutations(range(3)):
            told = Line(1, [(1, order[0], [1, 0]), (2, order[1], [0, 0]), (3, order[2], [5, 0])], [(1, [1])])
            found = unchanged(self, renamed, Book(3, [line, THIRD]), list(order))
            self.assertEqual(found, Book(3, [told, Line(1, [(1, order[2], [1, 0])], [(1, [1])])]))
            self.assertEqual(renamed(Book(3, [line, THIRD]), order), found)

    def test_renamed_refused(self):
        orders = not_lists() + [[], [0], [0, 0], [1, 1], [1, 2], [0, 1, 2], [2, 0], [-1, 0], "01", [[0, 1]], (1,)]
        orders += [[value, 1] for value in not_counts()] + [[0, True], [False, 1], [Ratio(0), Ratio(1)]]
        wrong = {"book": (InvalidBook, wrong_books()), "order": (InvalidOrder, orders)}
        check_parameters(self, renamed, [("book", BOOK), ("order", [1, 0])], wrong)


class Blends(unittest.TestCase):
    def test_blends(self):
        for value in [[], (), [(1, 0, [1, 2])], ((1, 0, (1, 2)),), [(Ratio(1, 3), 1, [])], [(0, 0, [0, 0])],
                      [(1, 0, [1, 2]), (1, 0, [1, 2])], [(Ratio(0), 1, ()), (-5, 0, (7, -7))]]:
            self.assertIs(unchanged(self, is_blend, BOOK, value), True)
        self.assertIs(is_blend(book=BOOK, value=[]), True)

    def test_four_hundred_instances(self):
        for shape in [list, tuple]:
            told = shape([(1, 0, [k, 1]) for k in range(400)])
            self.assertIs(is_blend(BOOK, told), True)
            self.assertEqual(said(BOOK, told)[0][0], (0, 0, Ratio(-1)))
            more = shape([(0, 1, [])] * 401)
            self.assertIs(is_blend(BOOK, more), False)
            check_value(self, InvalidBlend, more, said, BOOK, more)

    def test_no_blends(self):
        for value in wrong_blends():
            self.assertIs(is_blend(BOOK, value), False)
        self.assertIs(is_blend(Book(1, []), [(1, 0, [])]), False)
        self.assertIs(is_blend(Book(1, []), []), True)

    def test_refused(self):
        books = (InvalidBook, wrong_books())
        check_parameters(self, is_blend, [("book", BOOK), ("value", None)], {"book": books})
        good = [("book", BOOK), ("blend", [(1, 0, [1, 2]), (2, 1, [])])]
        check_parameters(self, said, good, {"book": books, "blend": (InvalidBlend, wrong_blends())})

    def test_said(self):
        self.assertEqual(said(BOOK, []), ([], Ratio(0)))
        self.assertEqual(said(BOOK, [(1, 0, [0, 0]), (2, 1, [])]),
                         ([(0, 0, Ratio(-1)), (1, 5, Ratio(2))], Ratio(-4)))
        self.assertEqual(said(BOOK, [(1, 0, [1, 2]), (-1, 0, [2, 1])]), ([], Ratio(0)))
        self.assertEqual(said(BOOK, [(0, 1, []), (Ratio(0), 0, [1, 1])]), ([], Ratio(0)))
        self.assertEqual(said(BOOK, [(1, 1, []), (1, 1, [])]), ([(1, 5, Ratio(2))], Ratio(-4)))
        self.assertEqual(said(BOOK, [(1, 0, [1, 1]), (1, 0, [2, 1])])[0], [(0, 1, Ratio(-3)), (0, 3, Ratio(1))])
        self.assertEqual(said(BOOK, [(Ratio(1, 2), 1, ())]), ([(1, 5, Ratio(1, 2))], Ratio(-1)))
        self.assertEqual(as_words(said(BOOK, [(2, 1, [])])), "([(1, 5, Ratio(2, 1))], Ratio(-4, 1))")

    def test_said_is_the_sum(self):
        draw = random.Random(26)
        line = Line(1, [(1, 0, [2, 0]), (-1, 1, [1, 1])], [(1, [1]), (-2, [2])])
        book = Book(2, [SUMS, SHIFTED, line])
        for _ in range(60):
            blend = []
            for _ in range(draw.randint(0, 8)):
                at = draw.randrange(3)
                place = [draw.randint(-2, 2) for _ in range(book.lines()[at].letters)]
                blend.append((draw.choice([0, 1, -2, Ratio(1, 2)]), at, place))
            found = unchanged(self, said, book, blend)
            self.assertEqual(said(book, as_tuples(blend)), found)
            self.assertEqual(found, added([(number, instance(book.lines()[at], place)) for number, at, place in blend]))
            check_new(self, found, said(book, blend))

    def test_like_lines_added(self):
        twice = plus(SUMS, times(SUMS, Ratio(1, 2)))
        self.assertEqual(said(Book(1, [twice]), [(2, 0, [3, 4])]), said(Book(1, [SUMS]), [(3, 0, [3, 4])]))


def added(sayings):
    """Tuples (number, saying), added up."""
    worths, rest = {}, Ratio(0)
    for number, (values, beside) in sayings:
        rest = rest + number * beside
        for function, whole, worth in values:
            worths[function, whole] = worths.get((function, whole), Ratio(0)) + number * worth
    return [(*spot, worths[spot]) for spot in sorted(worths) if worths[spot] != Ratio(0)], rest


def wrong_blends():
    """What is no blend of BOOK."""
    told = [(value, 1, []) for value in not_numbers()] + [(1, value, []) for value in not_counts() + [2, 3, 10 ** 20]]
    told += [(1, 1, value) for value in not_lists() + [[0], [[]], (0,)]]
    told += [(1, 0, value) for value in not_lists() + [[], [1], [1, 2, 3], "12", [[1, 2]]]]
    told += [(1, 0, [1, value]) for value in not_integers()]
    told += [[1, 1, []], (1, 1), (1, 1, [], 0), (1, [], 1), (), 1, None, "11"]
    return not_lists() + [[one] for one in told] + [[(1, 1, []), told[0]], (told[0], (1, 1, [])), (1, 1, [])]


if __name__ == "__main__":
    unittest.main()
