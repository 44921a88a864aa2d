"""[54]: books that nobody keeps."""

import random
import unittest

from brute import small_books
from helpers import (
    as_tuples, as_words, check_bare, check_new, check_parameters, not_counts, not_integers, not_lists, not_numbers,
    unchanged,
)
from known import (
    ADDING, ODDS, SPLIT, SQUARES, STAMPS, SUMS, bracket, differences, middles, repeating, told, wrong_books,
)
from soughtrows.books import Book, renamed, said
from soughtrows.errors import InvalidBook, NotHeld
from soughtrows.lines import Line
from soughtrows.lines import times as line_times
from soughtrows.nones import is_none_blend, none_blend
from soughtrows.ratios import Ratio
from soughtrows.spaces import is_kept

CLASH = Book(1, [SUMS, told(0, 0, 1)])
BLEND = [(1, 0, [0, 0]), (1, 1, [])]


class NoneBlends(unittest.TestCase):
    def check(self, book):
        """The book has a blend that says no values, and a number other than 0."""
        self.assertIs(is_kept(book), False)
        blend = unchanged(self, none_blend, book)
        self.assertIsInstance(blend, list)
        self.assertLessEqual(len(blend), 400)
        for told_instance in blend:
            number, _, place = told_instance
            self.assertEqual([type(told_instance), type(number), type(place)], [tuple, Ratio, list])
        values, number = said(book, blend)
        self.assertEqual(values, [])
        self.assertNotEqual(number, Ratio(0))
        self.assertIs(is_none_blend(book, blend), True)
        self.assertIs(is_none_blend(book, as_tuples(blend)), True)
        check_new(self, blend, none_blend(book))
        return blend

    def test_by_a_told_value(self):
        self.check(CLASH)
        self.check(Book(1, [told(0, 0, Ratio(-1, 2)), ODDS]))
        self.check(Book(1, [SQUARES, told(0, 0, 3)]))
        self.check(Book(3, SPLIT.lines() + [told(0, 1, 1), told(1, 1, 1), told(2, 0, 1)]))
        self.check(Book(1, [SUMS, Line(0, [], [(1, [])])]))
        self.check(Book(1, [SUMS, Line(1, [], [(1, [2])])]))
        self.check(Book(1, [SUMS, Line(3, [], [(1, [1, 1, 1])])]))

    def test_by_two_that_disagree(self):
        for far in [2, 9, 20, 40]:
            self.check(Book(1, [SUMS, told(0, 1, 3), told(0, far, 3 * far + 1)]))
            self.check(Book(1, [SUMS, told(0, -far, 3 * far + 1), told(0, far - 1, 3)]))
        for far in [4, 10, 20]:
            self.check(Book(1, [ODDS, told(0, 2, 1), told(0, far, 0)]))
        self.check(Book(1, [repeating(6), told(0, -20, 1), told(0, 22, 2)]))
        self.check(Book(1, [middles(2), told(0, 0, 0), told(0, 10, 10), told(0, -10, 10)]))
        self.check(Book(1, [differences(3, 1), told(0, 0, 0), told(0, 1, 0), told(0, 2, 0), told(0, 9, 1)]))

    def test_far_told_values(self):
        # These are beyond what has to be told; but few steps lead there.
        for far in [200, 999]:
            self.check(Book(1, [SUMS, told(0, 1, 3), told(0, far, 3 * far + 1)]))
            self.check(Book(1, [repeating(12), told(0, -12 * far, 3), told(0, 0, 1)]))

    def test_by_rests(self):
        self.check(Book(1, [Line(2, [(1, 0, [1, 0, 0])], [(1, [0, 1])])]))
        self.check(Book(1, [Line(2, SUMS.terms(), [(1, [1, 0])])]))
        self.check(Book(1, [Line(2, SUMS.terms(), [(1, [2, 1])])]))
        self.check(Book(1, [Line(2, SQUARES.terms(), [(1, [1, 1])])]))
        self.check(Book(1, [Line(2, middles(3).terms(), [(1, [2, 1])])]))
        self.check(Book(1, [bracket(1, 0, [(1, [1])]), bracket(1, 0, [(1, [2])])]))
        self.check(Book(1, [bracket(2, 0), bracket(2, 1), bracket(3, 0, [(1, [1]), (-1, [0])])]))
        self.check(Book(2, [Line(2, [(1, 0, [1, 0, 0]), (1, 1, [0, 1, 0])], [(1, [1, 1])])]))
        self.check(Book(2, [Line(2, [(1, 0, [1, 1, 0]), (1, 1, [0, 1, 0])], [(1, [0, 0])]), told(0, 5, 1), told(1, 5, 1)]))

    def test_numbers_of_lines(self):
        for number in [2, -1, Ratio(3, 7)]:
            self.check(Book(1, [line_times(SUMS, number), line_times(told(0, 4, 1), Ratio(1, 3)), told(0, 6, 2)]))

    def test_random(self):
        seen = 0
        for book in small_books(540, 80):
            if is_kept(book):
                self.assertIsNone(none_blend(book))
                continue
            self.check(book)
            if book.functions == 2:
                self.check(renamed(book, [1, 0]))
            seen += 1
        self.assertTrue(seen > 15, seen)

    def test_somebody(self):
        for book in [ADDING, STAMPS, SPLIT, Book(1, [SUMS, told(0, 0, 0)]), Book(1, [SUMS, told(0, 5, 1)]),
                     Book(1, [bracket(1, 0)])]:
            self.assertIsNone(none_blend(book))

    def test_not_held(self):
        for book in [Book(1, []), Book(2, CLASH.lines()), Book(1, [told(0, 0, 0), told(0, 0, 1)]),
                     Book(1, [bracket(2, 0), told(0, 0, 1)])]:
            check_bare(self, NotHeld, none_blend, book)

    def test_refused(self):
        check_parameters(self, none_blend, [("book", CLASH)], {"book": (InvalidBook, wrong_books())})


class IsNoneBlend(unittest.TestCase):
    def test_blends(self):
        for blend in [BLEND, as_tuples(BLEND), BLEND[::-1], [(Ratio(-2, 3), 0, [0, 0]), (Ratio(-2, 3), 1, [])],
                      BLEND + [(0, 0, [5, 7])], BLEND + [(1, 0, [1, 2]), (-1, 0, [2, 1])],
                      [(Ratio(1, 2), 0, [0, 0])] + [(Ratio(1, 4), 1, ())] * 2 + [(Ratio(1, 2), 0, [0, 0]),
                                                                                  (Ratio(1, 2), 1, [])]]:
            self.assertIs(unchanged(self, is_none_blend, CLASH, blend), True)
        self.assertIs(is_none_blend(book=CLASH, value=BLEND), True)

    def test_a_number_changed(self):
        blend = none_blend(Book(1, [SUMS, told(0, 1, 3), told(0, 5, 16)]))
        book = Book(1, [SUMS, told(0, 1, 3), told(0, 5, 16)])
        for at, (number, position, place) in enumerate(blend):
            for other in [number + 1, -number, Ratio(0)]:
                wrong = blend[:at] + [(other, position, place)] + blend[at + 1:]
                self.assertIs(is_none_blend(book, wrong), False)
            self.assertIs(is_none_blend(book, blend[:at] + blend[at + 1:]), False)
        self.assertIs(is_none_blend(book, [(number * 7, position, place) for number, position, place in blend]), True)

    def test_what_says_nothing_or_values(self):
        for blend in [[], (), [(1, 0, [0, 0])], [(1, 1, [])], [(2, 0, [0, 0]), (1, 1, [])], [(0, 0, [0, 0]), (0, 1, [])],
                      [(1, 0, [1, 2]), (-1, 0, [2, 1])]]:
            self.assertIs(is_none_blend(CLASH, blend), False)

    def test_any_value(self):
        wrong = not_lists() + [BLEND[0], [BLEND], [BLEND[0], list(BLEND[1])], [BLEND[0], BLEND[1][:2]], "blend"]
        wrong += [BLEND + [(value, 1, [])] for value in not_numbers()]
        wrong += [BLEND + [(0, value, [])] for value in not_counts() + [2]]
        wrong += [BLEND + [(0, 0, [0, value])] for value in not_integers()] + [BLEND + [(0, 0, [0])]]
        for value in wrong:
            self.assertIs(is_none_blend(CLASH, value), False)
        self.assertIs(is_none_blend(CLASH, BLEND + [(0, 1, [])] * 398), True)
        self.assertIs(is_none_blend(CLASH, BLEND + [(0, 1, [])] * 399), False)

    def test_of_any_book(self):
        loose = Book(2, [told(1, 3, 0), told(1, 3, 1)])
        self.assertIs(is_none_blend(loose, [(1, 0, []), (-1, 1, [])]), True)
        self.assertIs(is_none_blend(loose, [(1, 0, []), (1, 1, [])]), False)
        self.assertIs(is_none_blend(Book(3, [Line(0, [], [(2, [])])]), [(1, 0, [])]), True)
        for book in [Book(1, []), Book(3, []), ADDING]:
            self.assertIs(is_none_blend(book, []), False)
            self.assertIs(is_none_blend(book, BLEND), False)
        self.assertIs(is_none_blend(ADDING, [(1, 0, [0, 0])]), False)

    def test_no_blend_of_kept_books(self):
        draw = random.Random(54)
        for _ in range(100):
            blend = [(draw.randint(-2, 2), 0, [draw.randint(-2, 2) for _ in range(2)]) for _ in range(draw.randint(0, 4))]
            self.assertIs(is_none_blend(STAMPS, blend), False)

    def test_refused(self):
        wrong = {"book": (InvalidBook, wrong_books())}
        check_parameters(self, is_none_blend, [("book", CLASH), ("value", BLEND)], wrong)
        self.assertEqual(as_words(is_none_blend(CLASH, BLEND)), as_words(True))


if __name__ == "__main__":
    unittest.main()
