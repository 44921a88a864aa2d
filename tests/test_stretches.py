"""[85] and [86]: stretches, tables that keep a book within them, and long ones."""

import random
import unittest

from brute import free_rows, small_books
from helpers import (
    as_tuples, as_words, check_bare, check_new, check_parameters, check_too_many, check_value, not_integers, not_lists,
    not_numbers, unchanged,
)
from known import (
    ADDING, ODDS, SPLIT, SQUARES, STAMPS, SUMS, bracket, differences, every_place, line_worth, middles, repeating,
    told, wrong_books,
)
from soughtrows.books import Book, renamed
from soughtrows.errors import InvalidBook, InvalidHigh, InvalidLow, InvalidTables, NotHeld
from soughtrows.lines import Line
from soughtrows.ratios import Ratio
from soughtrows.spaces import is_kept, space
from soughtrows.stretches import break_within, inside, is_long, keeps_within, stray

PLAIN = Line(2, [(1, 0, [1, 0, 0]), (-1, 0, [0, 1, 0])], [])
ANY = [Line(0, [], []), told(0, 2, 5), told(0, -3, 0), Line(1, [(1, 0, [2, 1]), (1, 0, [-1, 4])], [(1, [2])]),
       SUMS, ODDS, Line(2, [(1, 0, [0, 1, 3]), (2, 0, [0, 0, 1])], []), Line(2, [(3, 0, [-2, -1, 5])], []),
       Line(3, [(1, 0, [1, 1, 1, 0]), (1, 0, [1, -2, 0, 3]), (1, 0, [0, 0, 5, 1])], [(1, [1, 1, 1])]), middles(3),
       Line(1, [(1, 0, [0, 7])], []), Line(1, [], [(1, [1])]), bracket(99, -99)]

# Kept by n n and n n n, which no window tells without the rests.
TWICE = Book(1, [Line(2, SUMS.terms(), [(-2, [1, 1])])])
CUBES = Book(1, [Line(2, SUMS.terms(), [(-3, [2, 1]), (-3, [1, 2])])])


def naive(book, low, high):
    """All instances inside, by going through all places of the stretch."""
    found = []
    for position, line in enumerate(book.lines()):
        for place in every_place(line.letters, low, high):
            worths = [sum(a * x for a, x in zip(argument, [*place, 1])) for _, _, argument in line.terms()]
            if all(low <= worth <= high for worth in worths):
                found.append((position, place))
    return found


def first_tables(book, low, high, number):
    return [[number + f + n for n in range(low, high + 1)] for f in range(book.functions)]


class Inside(unittest.TestCase):
    def test_small(self):
        self.assertEqual(inside(ADDING, 1, 2), [(0, [1, 1])])
        self.assertEqual(inside(ADDING, 2, 3), [])
        self.assertEqual(inside(ADDING, -1, 1), [(0, [-1, 0]), (0, [-1, 1]), (0, [0, -1]), (0, [0, 0]), (0, [0, 1]),
                                                 (0, [1, -1]), (0, [1, 0])])
        self.assertEqual(inside(Book(1, []), 0, 30), [])
        self.assertEqual(inside(book=ADDING, low=0, high=0), [(0, [0, 0])])
        self.assertEqual(inside(Book(1, [told(0, 3, 1), Line(0, [], []), told(0, 4, 1)]), 3, 3), [(0, []), (1, [])])
        self.assertEqual(inside(Book(1, [bracket(-2, 1)]), -3, 3), [(0, [-1]), (0, [0]), (0, [1]), (0, [2])])
        check_new(self, inside(ADDING, -2, 2), inside(ADDING, -2, 2))

    def test_naive(self):
        draw = random.Random(85)
        many = 0
        for _ in range(250):
            low = draw.choice([0, 0, -1, -4, 3, -7, draw.randint(-12, 12)])
            high = low + draw.choice([0, 1, 2, 3, 5, 8])
            book = Book(1, [draw.choice(ANY) for _ in range(draw.randint(0, 4))])
            wanted = naive(book, low, high)
            if len(wanted) <= 400:
                found = unchanged(self, inside, book, low, high)
                self.assertEqual(as_words(found), as_words(wanted))
                self.assertEqual(found, sorted(found))
                many += len(wanted)
            else:
                check_too_many(self, "instances", 400, inside, book, low, high)
        self.assertTrue(many > 1000)

    def test_each_line(self):
        for line in ANY:
            for low, high in [(0, 0), (-5, 5), (3, 9), (-12, -4), (-1000, -990), (995, 1003)]:
                wanted = naive(Book(1, [line]), low, high)
                if len(wanted) <= 400:
                    self.assertEqual(inside(Book(1, [line]), low, high), wanted)

    def test_other_functions(self):
        self.assertEqual(inside(SPLIT, 1, 3), [(0, [1, 1]), (0, [1, 2]), (0, [2, 1])])

    def test_long_stretches_of_three_letters(self):
        line = Line(3, [(1, 0, [99, 0, 0, 0]), (1, 0, [0, 99, 0, 0]), (1, 0, [0, 0, 99, 0])], [])
        self.assertEqual(inside(Book(1, [line] * 6), -15, 15), [(k, [0, 0, 0]) for k in range(6)])
        check_too_many(self, "instances", 400, inside, Book(1, [Line(3, [], [])]), -15, 15)

    def test_just_400(self):
        self.assertEqual(len(inside(Book(1, [PLAIN]), 0, 19)), 400)
        check_too_many(self, "instances", 400, inside, Book(1, [PLAIN]), 0, 20)
        book = Book(1, [PLAIN, told(0, 5, 1)])
        check_too_many(self, "instances", 400, inside, book, 0, 19)
        self.assertEqual(len(inside(book, -20, -1)), 400)
        for function in [keeps_within, break_within]:
            check_too_many(self, "instances", 400, function, book, 0, 19, [[0] * 20])
        self.assertIs(keeps_within(book, -20, -1, [[7] * 20]), True)


class Within(unittest.TestCase):
    def check(self, book, low, high, tables):
        """The told instance is inside and not kept; tells whether all are kept."""
        kept = unchanged(self, keeps_within, book, low, high, tables)
        found = unchanged(self, break_within, book, low, high, tables)
        for passed in [as_tuples(tables), [tuple(table) for table in tables]]:
            self.assertIs(keeps_within(book, low, high, passed), kept)
            self.assertEqual(break_within(book, low, high, passed), found)
        self.assertIs(kept, found is None)
        worths = [(position, place, line_worth(book.lines()[position], lambda f, n: Ratio(1) * tables[f][n - low], place))
                  for position, place in inside(book, low, high)]
        self.assertIs(kept, all(worth.sign == 0 for _, _, worth in worths))
        if not kept:
            self.assertIsInstance(found, tuple)
            self.assertIn(found, [(position, place) for position, place, worth in worths if worth.sign != 0])
            check_new(self, found, break_within(book, low, high, tables))
        return kept

    def test_small(self):
        self.assertIs(self.check(ADDING, 1, 2, [[3, 6]]), True)
        self.assertIs(self.check(ADDING, 1, 2, [[Ratio(13, 4), Ratio(13, 2)]]), True)
        self.assertIs(self.check(ADDING, 1, 2, [[3, Ratio(13, 2)]]), False)
        self.assertIs(self.check(ADDING, 2, 3, [[5, -7]]), True)
        self.assertIs(self.check(ADDING, -2, 2, [[-2, -1, 0, 1, 2]]), True)
        self.assertIs(self.check(ADDING, -2, 2, [[-2, -1, 0, 1, 3]]), False)
        self.assertIs(self.check(SPLIT, 1, 2, [[5, 3], [1, 9], [2, 7]]), True)
        self.assertIs(self.check(SPLIT, 1, 2, [[5, 4], [1, 9], [2, 7]]), False)
        self.assertIs(self.check(Book(1, []), 0, 30, [[1] * 31]), True)
        self.assertIs(self.check(Book(1, [told(0, 5, Ratio(1, 2))]), 5, 5, [[Ratio(2, 4)]]), True)
        self.assertIs(self.check(Book(1, [told(0, 5, Ratio(1, 2))]), 5, 5, [[0]]), False)
        self.assertIs(self.check(Book(1, [Line(0, [], [(1, [])])]), 5, 5, [[0]]), False)
        self.assertIs(keeps_within(book=ADDING, low=1, high=2, tables=[[3, 6]]), True)

    def test_fillings(self):
        for book in [ADDING, STAMPS, SPLIT, Book(1, [middles(2)]), Book(1, [Line(2, SUMS.terms(), [(-2, [1, 1])])])]:
            first, basis = space(book)
            for filling in [first] + [[one for one in told_one] for told_one in basis][:1]:
                for low, high in [(0, 5), (-4, 3), (7, 7), (-6, -1)]:
                    tables = [[course.at(n) for n in range(low, high + 1)] for course in filling]
                    if filling is first:
                        self.assertIs(self.check(book, low, high, tables), True)
                    tables[0][-1] = tables[0][-1] + 1
                    self.check(book, low, high, tables)

    def test_random(self):
        draw = random.Random(851)
        seen = {True: 0, False: 0}
        for _ in range(200):
            low = draw.randint(-5, 5)
            high = low + draw.randint(0, 5)
            book = Book(1, [draw.choice(ANY[1:]) for _ in range(draw.randint(1, 2))])
            tables = [[draw.choice([0, 0, 0, 1, Ratio(-1, 2)]) for _ in range(low, high + 1)]]
            seen[self.check(book, low, high, tables)] += 1
        self.assertTrue(min(seen.values()) > 40, seen)

    def test_no_need_to_hold(self):
        self.assertIs(self.check(Book(2, [told(1, 2, 3)]), 2, 2, [[0], [3]]), True)


class Long(unittest.TestCase):
    def check(self, book, low, high):
        """Whether the stretch is long is as ranks tell, reckoned on their own; the stray tables stray."""
        long = unchanged(self, is_long, book, low, high)
        found = unchanged(self, stray, book, low, high)
        self.assertIs(long, found is None)
        spots = [(f, n) for f in range(book.functions) for n in range(low, high + 1)]
        rows = []
        for position, place in inside(book, low, high):
            line = book.lines()[position]
            beside = line_worth(line, lambda f, n: Ratio(0), place)
            rows.append([line_worth(line, lambda f, n: Ratio(int((f, n) == spot)), place) - beside for spot in spots]
                        + [beside])
        many = len(free_rows([row[:-1] for row in rows]))
        has_tables = len(free_rows(rows)) == many
        if is_kept(book):
            self.assertTrue(has_tables)
            parts = [[filling[f].at(n) for f, n in spots] for filling in space(book)[1]]
            self.assertIs(long, len(free_rows(parts)) == len(spots) - many)
        else:
            self.assertIs(long, not has_tables)
        if found is not None:
            self.check_stray(book, low, high, found)
        return long

    def check_stray(self, book, low, high, tables):
        self.assertIsInstance(tables, list)
        self.assertEqual([(type(table), len(table)) for table in tables], [(list, high - low + 1)] * book.functions)
        self.assertTrue(all(isinstance(number, Ratio) for table in tables for number in table))
        self.assertIs(keeps_within(book, low, high, tables), True)
        check_new(self, tables, stray(book, low, high))
        if is_kept(book):
            first, basis = space(book)
            spots = [(f, n) for f in range(book.functions) for n in range(low, high + 1)]
            parts = [[filling[f].at(n) for f, n in spots] for filling in basis]
            left = [tables[f][n - low] - first[f].at(n) for f, n in spots]
            self.assertEqual(free_rows([*parts, left])[-1], len(parts))

    def test_small(self):
        for book, low, high, wanted in [
                (ADDING, -1, 1, True), (ADDING, 2, 3, False), (ADDING, 0, 1, True), (ADDING, 0, 0, True),
                (ADDING, 1, 1, True), (ADDING, 2, 4, False), (ADDING, 1, 9, True), (ADDING, 3, 6, False),
                (ADDING, -24, -1, True), (STAMPS, 0, 1, True), (STAMPS, 0, 2, True), (STAMPS, 1, 5, True),
                (SPLIT, 0, 0, True), (SPLIT, 0, 1, True), (SPLIT, 0, 7, True), (SPLIT, 1, 3, False),
                (Book(1, [SQUARES]), 0, 3, True), (Book(1, [middles(2)]), 0, 10, True), (Book(1, [middles(2)]), 0, 3, True),
                (Book(1, [differences(3, 2)]), 0, 23, True), (Book(1, [repeating(5)]), 0, 7, True),
                (TWICE, 2, 5, False), (TWICE, 5, 9, False), (TWICE, 0, 5, True), (TWICE, -3, 2, True), (CUBES, 1, 3, True), (CUBES, 2, 3, False),
                (CUBES, -1, 4, True), (Book(1, [SUMS, told(0, 3, 6)]), 0, 2, False), (Book(1, [SUMS, told(0, 3, 6)]), 0, 3, True)]:
            with self.subTest(terms=book.lines()[0].terms(), low=low, high=high):
                self.assertIs(self.check(book, low, high), wanted)
        self.assertIs(is_long(book=ADDING, low=-1, high=1), True)
        self.assertIsNone(stray(book=ADDING, low=-1, high=1))

    def test_nobody(self):
        none = Book(1, [SUMS, told(0, 3, 6), told(0, 4, 6)])
        self.assertIs(is_kept(none), False)
        for low, high, wanted in [(0, 2, False), (0, 3, False), (0, 4, True), (3, 4, False), (-5, -1, False),
                                  (1, 4, True), (4, 4, False)]:
            self.assertIs(self.check(none, low, high), wanted)
        self.assertIs(self.check(Book(1, [SUMS, told(0, 0, 1)]), 0, 0, ), True)
        self.assertIs(self.check(Book(1, [SUMS, told(0, 0, 1)]), 1, 9), False)

    def test_random(self):
        draw = random.Random(86)
        seen = {}
        for book in small_books(860, 60):
            for _ in range(2):
                low = draw.randint(-6, 4)
                high = low + draw.randint(0, min(9, 24 // book.functions - 1))
                if len(naive(book, low, high)) <= 400:
                    key = (self.check(book, low, high), is_kept(book))
                    seen[key] = seen.get(key, 0) + 1
        self.assertTrue(len(seen) == 4 and min(seen.values()) >= 3, seen)

    def test_many_unknowns(self):
        for book, low, high in [(Book(1, [middles(12)]), 0, 23), (Book(1, [middles(4)]), -12, 11),
                                (Book(1, [differences(4, 3)]), -10, 13), (Book(2, [middles(3), repeating(12, 1)]), 0, 11),
                                (SPLIT, -4, 3), (Book(1, [differences(4, 1), *[SQUARES] * 1]), 0, 23)]:
            self.check(book, low, high)

    def test_bounds_and_their_sequence(self):
        two = Book(2, [SUMS, *renamed(Book(2, [SUMS]), [1, 0]).lines()])
        for function in [is_long, stray]:
            for book, high in [(ADDING, 24), (two, 12), (SPLIT, 8), (Book(1, [SUMS, PLAIN]), 30)]:
                check_too_many(self, "unknowns", 24, function, book, 0, high)
            check_too_many(self, "instances", 400, function, Book(1, [SUMS, PLAIN]), 0, 20)
            check_too_many(self, "instances", 400, function, ADDING, -12, 11)
            for book in [Book(1, []), Book(1, [bracket(2, 0)]), Book(2, [SUMS])]:
                check_bare(self, NotHeld, function, book, 0, 30)
            self.assertEqual(len(inside(ADDING, 0, 23)), 300)
            function(ADDING, 0, 23)
            function(two, -6, 5)
            function(Book(1, [SUMS, told(0, 0, 5)]), 1, 24)
        self.assertEqual(len(inside(Book(1, [PLAIN, bracket(1, 0)]), 3, 3)), 2)
        self.assertIs(self.check(Book(1, [repeating(1), PLAIN]), 1, 15), True)


class Refused(unittest.TestCase):
    def test_refused(self):
        lows = not_integers() + [-1001, 1001, 10 ** 20]
        highs = not_integers() + [-2, -100, 30, 31, 10 ** 20]
        tables = not_lists() + [[], [[1, 2, 3]] * 2, [1, 2, 3], [[1, 2]], [[1, 2, 3, 4]], [[]], [{0: 1, 1: 2, 2: 3}],
                                "abc", {0: [1, 2, 3]}, [None], [[[1, 2, 3]]], [range(3)]]
        tables += [[[1, 2, value]] for value in not_numbers()] + [[(value, 2, 3)] for value in not_numbers()]
        wrong = {"book": (InvalidBook, wrong_books()), "low": (InvalidLow, lows), "high": (InvalidHigh, highs),
                 "tables": (InvalidTables, tables)}
        start = [("book", ADDING), ("low", -1), ("high", 1)]
        for function in [inside, is_long, stray]:
            check_parameters(self, function, start, wrong)
        for function in [keeps_within, break_within]:
            check_parameters(self, function, [*start, ("tables", [[1, Ratio(1, 2), 3]])], wrong)

    def test_just_within(self):
        for low in [-1000, 1000, 0]:
            self.assertEqual(inside(Book(1, [bracket(0, low)]), low, low), [(0, [low])])
            self.assertEqual(len(inside(Book(1, [bracket(1, 0)]), low, low + 30)), 31)
            check_value(self, InvalidHigh, low + 31, inside, ADDING, low, low + 31)
            check_value(self, InvalidHigh, low - 1, inside, ADDING, low, low - 1)
            self.assertIs(keeps_within(Book(1, [bracket(1, 0)]), low, low + 30, [[0] * 31]), True)

    def test_tables_of_more_functions(self):
        for tables in [[[1, 2]] * 2, [[1, 2]] * 4, [[1, 2], [1, 2], [1]], [[1, 2], [1, 2], [1, True]]]:
            check_value(self, InvalidTables, tables, keeps_within, SPLIT, 0, 1, tables)

    def test_tables_ahead_of_too_many(self):
        check_value(self, InvalidTables, [], break_within, Book(1, [PLAIN]), 0, 30, [])
        for function, more in [(inside, []), (is_long, []), (stray, []), (keeps_within, [None])]:
            check_value(self, InvalidLow, 1001, function, Book(1, []), 1001, 1001, *more)
            check_value(self, InvalidHigh, 31, function, Book(1, []), 0, 31, *more)


if __name__ == "__main__":
    unittest.main()
