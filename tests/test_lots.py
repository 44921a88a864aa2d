"""[74] to [76]: spots, free spots, and twins."""

import random
import unittest

from brute import free_rows, small_books
from helpers import (
    as_tuples, as_words, check_bare, check_new, check_parameters, check_value, not_integers, not_lists, unchanged,
)
from known import (
    ADDING, ODDS, SPLIT, SQUARES, STAMPS, SUMS, bracket, differences, is_kept_near, middles, repeating, told,
    wrong_books, wrong_functions,
)
from soughtrows.books import Book
from soughtrows.courses import Course
from soughtrows.errors import InvalidBook, InvalidSpots, NobodyKeeps, NotHeld
from soughtrows.given import forced, through
from soughtrows.lines import Line
from soughtrows.lots import first_free, least_spots, rank_of, settles, twins
from soughtrows.ratios import Ratio
from soughtrows.spaces import dimension, is_kept, space

NONE = Book(1, [SUMS, told(0, 0, 1)])
LOOSE = Book(1, [bracket(2, 0)])
FIXED = Book(1, [SUMS, told(0, 2, 6)])
BOOKS = [ADDING, STAMPS, SPLIT, FIXED, Book(1, [SQUARES]), Book(1, [middles(3)]), Book(1, [differences(3, 2)]),
         Book(1, [Line(2, middles(2).terms(), [(-8, [0, 2])])]), Book(2, [repeating(3), ODDS, repeating(4, 1)]),
         Book(1, [middles(12)]), Book(2, [differences(4, 3), differences(2, 6, 1)])]


def random_spots(draw, functions, many, most=9):
    found = []
    while len(found) < many:
        spot = (draw.randrange(functions), draw.randint(-most, most))
        if spot not in found:
            found.append(spot)
    return found


def rows_at(book, spots):
    """What the basis of a space has at the spots."""
    _, basis = space(book)
    return [[filling[function].at(whole) for filling in basis] for function, whole in spots]


class Lots(unittest.TestCase):
    def check(self, book, spots):
        """The free spots are those that a space of the book tells, reckoned on its own; the rest agrees with them."""
        found = unchanged(self, first_free, book, spots)
        self.assertEqual(as_words(found), as_words([spots[at] for at in free_rows(rows_at(book, spots))]))
        self.assertEqual(first_free(book, as_tuples(spots)), found)
        self.assertEqual(as_words(unchanged(self, rank_of, book, spots)), str(len(found)))
        settled = unchanged(self, settles, book, spots)
        self.assertIs(settled, len(found) == dimension(book))
        pair = unchanged(self, twins, book, spots)
        self.assertEqual(pair, twins(book, as_tuples(spots)))
        self.assertIs(pair is None, settled)
        if pair is not None:
            self.check_twins(book, spots, pair)
        return found

    def check_twins(self, book, spots, pair):
        self.assertIsInstance(pair, tuple)
        one, two = pair
        self.assertEqual([type(one), type(two), len(one), len(two)], [list, list, book.functions, book.functions])
        self.assertNotEqual(one, two)
        for function, whole in spots:
            self.assertEqual(one[function].at(whole), two[function].at(whole))
        for filling in pair:
            self.assertTrue(all(isinstance(course, Course) for course in filling))
            self.assertTrue(is_kept_near(book.lines(), lambda f, n: filling[f].at(n), 2))
        check_new(self, pair, twins(book, spots))

    def check_worths(self, book, spots, draw):
        """Any worths at the free spots are of some filling that keeps the book, and force those at the others."""
        free = first_free(book, spots)
        values = [(*spot, draw.choice([draw.randint(-9, 9), Ratio(draw.randint(-9, 9), 7)])) for spot in free]
        filling = through(book, values)
        for function, whole in spots:
            self.assertEqual(forced(book, values, function, whole), filling[function].at(whole))

    def test_small(self):
        self.assertEqual(self.check(ADDING, [(0, 0), (0, -4), (0, 2)]), [(0, -4)])
        self.assertEqual(self.check(ADDING, []), [])
        self.assertEqual(self.check(STAMPS, [(0, 2), (0, 4), (0, 3), (0, 5), (0, 1)]), [(0, 2), (0, 3)])
        self.assertEqual(self.check(SPLIT, [(2, 3), (0, 3), (1, 3), (1, 0), (0, 0)]), [(2, 3), (0, 3), (1, 3)])
        self.assertEqual(self.check(SPLIT, [(2, 0), (0, 0), (1, 0), (1, 7)]), [(2, 0), (0, 0), (1, 7)])
        self.assertIs(settles(book=ADDING, spots=((0, 3),)), True)
        self.assertIs(settles(ADDING, [(0, 0)]), False)
        self.assertIs(settles(STAMPS, [(0, 1), (0, 3)]), True)
        self.assertIs(settles(STAMPS, [(0, 2), (0, 4)]), False)
        check_new(self, first_free(ADDING, [(0, 1)]), first_free(ADDING, [(0, 1)]))

    def test_dimension_nought(self):
        for spots in [[], [(0, 0)], [(0, 5), (0, -7)]]:
            self.assertEqual(self.check(FIXED, spots), [])
            self.assertIs(settles(FIXED, spots), True)
        self.assertEqual(least_spots(FIXED), [])

    def test_each_sequence(self):
        draw = random.Random(74)
        for book in BOOKS:
            spots = random_spots(draw, book.functions, 12)
            ranks = []
            for _ in range(4):
                draw.shuffle(spots)
                self.check(book, spots)
                ranks.append(rank_of(book, spots))
            self.assertEqual(len(set(ranks)), 1)

    def test_random(self):
        draw = random.Random(75)
        seen = {True: 0, False: 0}
        for book in BOOKS * 5 + [book for book in small_books(750, 40) if is_kept(book)]:
            spots = random_spots(draw, book.functions, draw.randint(0, 8), 5)
            self.check(book, spots)
            self.check_worths(book, spots, draw)
            seen[settles(book, spots)] += 1
        self.assertTrue(min(seen.values()) > 25, seen)

    def test_near_and_far(self):
        for far in [10, 10 ** 6, 10 ** 15 + 1, 10 ** 29]:
            self.assertEqual(self.check(ADDING, [(0, 0), (0, -far), (0, far)]), [(0, -far)])
            self.assertEqual(self.check(Book(1, [repeating(10)]), [(0, far), (0, far + 10), (0, far + 5)]),
                             [(0, far), (0, far + 5)])
            self.check(Book(1, [differences(4, 3)]), [(0, -far + 3 * k) for k in range(6)] + [(0, far + k) for k in range(4)])

    def test_forty_spots(self):
        self.assertEqual(self.check(ADDING, [(0, k) for k in range(40)]), [(0, 1)])
        book = Book(1, [middles(12)])
        self.assertEqual(len(self.check(book, [(0, 17 - k) for k in range(40)])), 24)
        self.assertEqual(len(self.check(book, [(0, 12 * k) for k in range(40)])), 2)
        self.assertEqual(len(self.check(SPLIT, [(k % 3, k) for k in range(40)])), 3)

    def test_least_spots(self):
        for book in BOOKS + [book for book in small_books(751, 30) if is_kept(book)]:
            spots = unchanged(self, least_spots, book)
            self.assertIsInstance(spots, list)
            self.assertEqual(len(spots), dimension(book))
            self.assertEqual(len(set(spots)), len(spots))
            self.assertEqual(self.check(book, spots), spots)
            self.assertIs(settles(book, spots), True)
            for at in range(len(spots)):
                self.assertIs(settles(book, spots[:at] + spots[at + 1:]), False)
            check_new(self, spots, least_spots(book))
        self.assertEqual(len(least_spots(book=SPLIT)), 3)

    def test_states(self):
        for function, more in [(settles, [[]]), (rank_of, [[(0, 1)]]), (first_free, [[]]), (least_spots, []),
                               (twins, [[]])]:
            for book in [LOOSE, Book(1, []), Book(2, NONE.lines())]:
                check_bare(self, NotHeld, function, book, *more)
            check_bare(self, NobodyKeeps, function, NONE, *more)
            if more:
                for book in [LOOSE, NONE]:
                    check_value(self, InvalidSpots, [(1, 0)], function, book, [(1, 0)])

    def test_refused(self):
        good = (0, 1)
        wrong = not_lists() + [good, [list(good)], [good[:1]], [good + (0,)], [()], [None], "ab", [[good]], {0: good},
                               [good, good], [good, (0, 3), (0, 1)], [(0, k) for k in range(41)],
                               tuple([(0, k) for k in range(41)])]
        wrong += [[good, (value, 5)] for value in wrong_functions(1)]
        wrong += [[good, (0, value)] for value in not_integers()]
        parameters = {"book": (InvalidBook, wrong_books()), "spots": (InvalidSpots, wrong)}
        for function in [settles, rank_of, first_free, twins]:
            check_parameters(self, function, [("book", ADDING), ("spots", [good])], parameters)
        check_parameters(self, least_spots, [("book", ADDING)], parameters)


if __name__ == "__main__":
    unittest.main()
