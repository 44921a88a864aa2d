"""[64] to [66]: ties, needless lines, and books that are alike."""

import itertools
import random
import unittest

from brute import small_books
from helpers import (
    as_tuples, as_words, check_bare, check_new, check_parameters, check_value, not_counts, not_integers, not_lists,
    unchanged,
)
from known import (
    ADDING, ODDS, SPLIT, SQUARES, STAMPS, SUMS, bracket, differences, middles, random_place, repeating, told,
    wrong_books, wrong_functions,
)
from soughtrows.books import Book, without_line
from soughtrows.errors import (
    InvalidBook, InvalidLetters, InvalidShapes, NobodyKeeps, NotHeld, UnlikeFunctions,
)
from soughtrows.follows import follows
from soughtrows.lines import Line, put, times
from soughtrows.ratios import Ratio
from soughtrows.sheets import room
from soughtrows.solved import is_mix, steps
from soughtrows.spaces import is_kept
from soughtrows.ties import alike, needless, ties

CLASH = Book(1, [SUMS, told(0, 0, 1)])
LOOSE = Book(1, [bracket(2, 0)])
OPPOSITE = Line(1, [(1, 0, [-1, 0]), (1, 0, [1, 0])], [])


def tie_line(letters, shapes, row):
    terms = [(number, function, argument) for number, (function, argument) in zip(row, shapes)]
    return Line(letters, terms, [(row[-1], [0] * letters)])


class Ties(unittest.TestCase):
    def check(self, book, letters, shapes, many=None):
        """The ties stand in steps, and their lines follow; these are so many."""
        found = unchanged(self, ties, book, letters, shapes)
        self.assertEqual(ties(book, letters, as_tuples(shapes)), found)
        self.assertTrue(all(len(row) == len(shapes) + 1 for row in found))
        self.assertTrue(all(isinstance(number, Ratio) for row in found for number in row))
        if found:
            self.assertEqual(steps(found), found)
        for row in found:
            self.assertIs(follows(book, tie_line(letters, shapes, row)), True)
        if many is not None:
            self.assertEqual(len(found), many)
        check_new(self, found, ties(book, letters, shapes))
        return found

    def test_examples(self):
        found = self.check(ADDING, 1, [(0, [1, 0]), (0, [2, 0]), (0, [-1, 0])], 2)
        self.assertEqual(found, [[Ratio(1), Ratio(0), Ratio(1), Ratio(0)], [Ratio(0), Ratio(1), Ratio(2), Ratio(0)]])
        self.assertEqual(self.check(ADDING, 0, [(0, [1])]), [])
        self.assertEqual(ties(book=ADDING, letters=0, shapes=[]), [])

    def test_no_shapes(self):
        for letters in range(4):
            for book in [ADDING, SPLIT, Book(1, [SUMS, told(0, 1, 5)])]:
                self.check(book, letters, [], 0)

    def test_shapes_of_the_book(self):
        for book in [ADDING, STAMPS, Book(1, [SQUARES]), SPLIT, Book(1, [middles(4)]), Book(1, [repeating(6)])]:
            line = book.lines()[0]
            terms = line.terms()
            row = [number for number, _, _ in terms] + [Ratio(0)]
            found = self.check(book, 2, [(function, argument) for _, function, argument in terms], 1)
            self.assertIs(is_mix(found, row, [terms[0][0]]), True)

    def test_last_numbers(self):
        book = Book(1, [SUMS, told(0, 2, 6)])
        self.assertEqual(self.check(book, 0, [(0, [1])]), [[Ratio(1), Ratio(-3)]])
        self.assertEqual(self.check(book, 0, [(0, [0])]), [[Ratio(1), Ratio(0)]])
        self.assertEqual(self.check(book, 0, [(0, [1]), (0, [-5])]), [[Ratio(1), Ratio(0), Ratio(-3)],
                                                                      [Ratio(0), Ratio(1), Ratio(15)]])
        self.assertEqual(self.check(book, 1, [(0, [1, 1]), (0, [1, 0])]), [[Ratio(1), Ratio(-1), Ratio(-3)]])
        self.assertEqual(self.check(book, 1, [(0, [1, 0])]), [])
        line = Line(2, SUMS.terms(), [(-2, [1, 1])])
        self.assertEqual(self.check(Book(1, [line]), 1, [(0, [1, 1]), (0, [1, 0]), (0, [1, -1])]),
                         [[Ratio(1), Ratio(-2), Ratio(1), Ratio(-2)]])

    def test_six_shapes(self):
        shapes = [(0, [1, k]) for k in range(6)]
        for many, step in [(1, 1), (2, 1), (3, 1), (4, 1), (2, 2), (3, 2), (2, 3), (1, 5), (1, 6), (2, 5)]:
            # From x on so many worths are free, and those behind hang on them.
            self.check(Book(1, [differences(many, step)]), 1, shapes, max(0, 6 - many * step))
        self.check(ADDING, 2, [(0, [1, 0, 0]), (0, [0, 1, 0]), (0, [1, 1, 0]), (0, [1, -1, 0]), (0, [2, 3, 1]),
                               (0, [0, 0, 1])], 6 - 3)

    def test_of_several_functions(self):
        self.check(SPLIT, 1, [(0, [1, 0]), (1, [1, 0]), (2, [1, 0])], 0)
        self.check(SPLIT, 1, [(0, [1, 1]), (0, [1, 0]), (1, [1, 1]), (1, [1, 0]), (2, [-1, 0]), (2, [-1, 1])], 2)
        self.check(Book(2, [repeating(2), repeating(3, 1)]), 1, [(0, [2, 0]), (0, [4, 2]), (1, [3, 1]), (1, [0, 1])], 2)
        self.check(Book(2, [repeating(2), repeating(3, 1)]), 1, [(0, [1, 0]), (1, [1, 0])], 0)

    def test_a_function_that_is_nought(self):
        book = Book(1, [bracket(1, 0)])
        self.check(book, 1, [(0, [1, 0]), (0, [5, 3])], 2)
        self.check(book, 3, [(0, [1, 0, 2, 0])], 1)

    def test_random(self):
        draw = random.Random(640)
        seen = {}
        for book in small_books(641, 60):
            if not is_kept(book):
                continue
            letters = draw.randint(0, 3)
            shapes = []
            for _ in range(draw.randint(1, 6)):
                shape = (draw.randrange(book.functions), random_place(draw, letters + 1, 2))
                shapes += [shape] if shape not in shapes else []
            found = self.check(book, letters, shapes)
            seen[len(found)] = seen.get(len(found), 0) + 1
            for _ in range(6):
                row = [Ratio(draw.randint(-1, 1)) for _ in range(len(shapes) + 1)]
                is_tie = steps(found + [row]) == found if any(number.sign for number in row) else True
                self.assertIs(follows(book, tie_line(letters, shapes, row)), is_tie)
        self.assertTrue(len(seen) > 4, seen)

    def test_invalid_shapes(self):
        wrong = not_lists() + [[(0, [1, k]) for k in range(7)], (0, [1, 0]), [[0, [1, 0]]], [(0,)], [(0, [1, 0], 1)],
                               [(0, [1, 0]), (0, [1, 0])], [(0, [1, 0]), (0, [2, 0]), (0, (1, 0))], [()], [None], "ab",
                               [(0, [1, 0]), 0], {0: (0, [1, 0])}, [[(0, [1, 0])]]]
        wrong += [[(value, [1, 0])] for value in wrong_functions(1)]
        wrong += [[(0, value)] for value in not_lists() + [[], [1], [1, 0, 0], "10", [[1, 0]]]]
        wrong += [[(0, [1, value])] for value in not_integers()]
        parameters = {"book": (InvalidBook, wrong_books()), "shapes": (InvalidShapes, wrong),
                      "letters": (InvalidLetters, not_counts() + [4, 10 ** 20, Ratio(1)])}
        check_parameters(self, ties, [("book", ADDING), ("letters", 1), ("shapes", [(0, [1, 0])])], parameters)
        check_value(self, InvalidShapes, [(0, [1, 0])], ties, ADDING, 0, [(0, [1, 0])])

    def test_states(self):
        for book, error in [(LOOSE, NotHeld), (CLASH, NobodyKeeps), (Book(2, CLASH.lines()), NotHeld)]:
            check_bare(self, error, ties, book, 1, [(0, [1, 0])])
            check_bare(self, error, ties, book, 0, [])
            check_value(self, InvalidShapes, None, ties, book, 1, None)
            check_value(self, InvalidLetters, 4, ties, book, 4, None)


class Needless(unittest.TestCase):
    def check(self, book, positions):
        self.assertEqual(as_words(unchanged(self, needless, book)), as_words(positions))
        check_new(self, needless(book), needless(book))

    def test_small(self):
        self.check(ADDING, [])
        self.check(Book(1, [SUMS, OPPOSITE]), [1])
        self.check(Book(1, [OPPOSITE, SUMS]), [0])
        self.check(Book(1, [SUMS, SUMS]), [0, 1])
        self.check(Book(1, [SUMS, SUMS, SUMS, ODDS]), [0, 1, 2, 3])
        self.check(Book(1, [SUMS, ODDS]), [1])
        self.check(Book(1, [Line(1, [], []), SUMS, Line(0, [], [])]), [0, 2])
        self.check(Book(1, [SUMS, told(0, 0, 0), told(0, 1, 0)]), [1])
        self.check(Book(1, [SUMS, told(0, 2, 6), told(0, 3, 9)]), [1, 2])
        self.check(Book(1, [ODDS, told(0, 2, 6), told(0, 3, 9)]), [])
        self.check(SPLIT, [])
        self.assertEqual(needless(book=ADDING), [])

    def test_in_other_letters_and_times_a_number(self):
        for other in [put(SUMS, 2, [[0, 1, 0], [1, 0, 0]]), put(SUMS, 2, [[1, 2, 0], [1, 1, 0]]), times(SUMS, -4),
                      put(SUMS, 3, [[1, 0, 1, 0], [0, 1, 0, 0]])]:
            self.check(Book(1, [SUMS, other]), [0, 1])
        for other in [put(SUMS, 2, [[2, 0, 0], [0, 1, 0]]), put(SUMS, 1, [[1, 0], [1, 0]]), times(SUMS, 0)]:
            self.check(Book(1, [SUMS, other]), [1])

    def test_what_holds_is_needed(self):
        # Without the one that holds it the other one tells of the worths at even places alone.
        self.check(Book(1, [bracket(2, 0), bracket(2, 1)]), [])
        self.check(Book(1, [bracket(1, 0), bracket(2, 0), bracket(2, 1)]), [0, 1, 2])
        self.check(Book(1, [bracket(1, 0), bracket(2, 0)]), [1])
        self.check(Book(2, [SUMS, repeating(2, 1), Line(1, [(1, 0, [1, 0]), (-1, 1, [1, 0])], [])]), [])

    def test_what_is_left_has_a_great_room(self):
        halves = [bracket(2, 0), bracket(2, 1)]
        for more in [[bracket(7, 0), bracket(5, 0)], [bracket(11, 0), bracket(9, 0), bracket(7, 1)]]:
            book = Book(1, [SUMS, *halves, *more])
            self.assertEqual([room(book), room(without_line(book, 0)) >= 70], [2, True])
            self.check(book, list(range(len(book.lines()))))
        self.check(Book(1, [SUMS, bracket(2, 0), repeating(4), told(0, 1, 0)]), [1, 2, 3])

    def test_random(self):
        seen = 0
        for book in small_books(650, 40):
            if not is_kept(book) or len(book.lines()) > 4:
                continue
            told_positions = []
            for position, line in enumerate(book.lines()):
                try:
                    told_positions += [position] if follows(without_line(book, position), line) else []
                except NotHeld:
                    pass
            self.check(book, told_positions)
            twice = Book(book.functions, book.lines() + book.lines()[:1])
            self.assertTrue({0, len(book.lines())} <= set(needless(twice)))
            seen += len(told_positions) > 0
        self.assertTrue(seen > 2, seen)

    def test_states(self):
        for book in [LOOSE, Book(1, []), Book(2, CLASH.lines())]:
            check_bare(self, NotHeld, needless, book)
        check_bare(self, NobodyKeeps, needless, CLASH)
        check_parameters(self, needless, [("book", ADDING)], {"book": (InvalidBook, wrong_books())})


class Alike(unittest.TestCase):
    def check(self, book, other, is_alike):
        self.assertIs(unchanged(self, alike, book, other), is_alike)
        self.assertIs(alike(other, book), is_alike)

    def test_small(self):
        self.check(ADDING, ADDING, True)
        self.check(ADDING, Book(1, [SUMS, OPPOSITE]), True)
        self.check(ADDING, STAMPS, False)
        self.check(ADDING, Book(1, [Line(2, [(1, 0, [1, 2, 0]), (-1, 0, [1, 0, 0]), (-2, 0, [0, 1, 0])], [])]), True)
        for many in range(1, 8):
            self.check(Book(1, [middles(many)]), Book(1, [differences(2, many)]), True)
            self.check(Book(1, [middles(many)]), Book(1, [differences(1, many)]), False)
            self.check(Book(1, [repeating(many)]), Book(1, [differences(1, many)]), True)
        self.check(SPLIT, Book(3, [SUMS, repeating(1, 1), repeating(1, 2)]), False)
        self.check(Book(2, [SUMS, repeating(1, 1)]), Book(2, [repeating(1), repeating(1, 1)]), False)
        self.assertIs(alike(book=ADDING, other=STAMPS), False)

    def test_told_values(self):
        self.check(Book(1, [SUMS, told(0, 2, 6)]), Book(1, [ODDS, told(0, 1, 3), told(0, 4, 12)]), True)
        self.check(Book(1, [SUMS, told(0, 2, 6)]), Book(1, [ODDS, told(0, 1, 4), told(0, 4, 12)]), False)
        self.check(Book(1, [SUMS, told(0, 2, 6)]), Book(1, [SUMS, told(0, 2, 4)]), False)
        self.check(Book(1, [SUMS, told(0, 2, 6)]), ADDING, False)
        self.check(Book(1, [SUMS, told(0, 2, 0)]), Book(1, [bracket(1, 0)]), True)

    def test_nobody(self):
        others = [Book(1, [ODDS, told(0, 0, 2)]), Book(1, [bracket(1, 0), told(0, 3, 1)])]
        for one, two in itertools.product([CLASH, *others], repeat=2):
            self.check(one, two, True)
        for other in others:
            self.check(other, ADDING, False)
            self.check(other, Book(1, [bracket(1, 0)]), False)

    def test_lines_exchanged(self):
        for book in small_books(660, 15):
            for lines in list(itertools.permutations(book.lines()))[:4]:
                self.check(book, Book(book.functions, [times(line, Ratio(1, 3)) for line in lines]), True)

    def test_as_each_follows(self):
        books = [book for book in small_books(661, 30) if is_kept(book)]
        seen = {True: 0, False: 0}
        for one, two in itertools.combinations(books, 2):
            if one.functions == two.functions:
                is_alike = all(follows(one, line) for line in two.lines()) and all(follows(two, line)
                                                                                   for line in one.lines())
                self.check(one, two, is_alike)
                seen[is_alike] += 1
        self.assertTrue(min(seen.values()) > 3, seen)

    def test_states(self):
        for one, two in itertools.permutations([Book(1, []), Book(2, []), Book(3, [])], 2):
            check_bare(self, UnlikeFunctions, alike, one, two)
        check_bare(self, UnlikeFunctions, alike, ADDING, SPLIT)
        for book in [ADDING, CLASH, LOOSE]:
            check_bare(self, NotHeld, alike, book, LOOSE)
            check_bare(self, NotHeld, alike, LOOSE, book)
        books = (InvalidBook, wrong_books())
        check_parameters(self, alike, [("book", ADDING), ("other", STAMPS)], {"book": books, "other": books})
        check_value(self, InvalidBook, None, alike, LOOSE, None)


if __name__ == "__main__":
    unittest.main()
