"""[61] to [63]: what follows, what breaks, and blends that show instances."""

import random
import unittest

from brute import small_books
from helpers import (
    as_tuples, check_bare, check_new, check_parameters, check_value, not_counts, not_integers, not_lists,
    not_numbers, unchanged,
)
from known import (
    ADDING, ODDS, PARTED, SPLIT, SQUARES, STAMPS, SUMS, bracket, differences, every_place, is_kept_near, middles,
    random_line, random_place, repeating, told, wrong_books, wrong_lines, wrong_places,
)
from soughtrows.books import Book, said
from soughtrows.errors import InvalidBook, InvalidLine, InvalidPlace, NobodyKeeps, NotHeld
from soughtrows.follows import break_by, follows, is_shown, shown
from soughtrows.kept import value_at
from soughtrows.lines import Line, instance, plus, put, times
from soughtrows.ratios import Ratio
from soughtrows.spaces import is_kept, space

OPPOSITE = Line(1, [(1, 0, [-1, 0]), (1, 0, [1, 0])], [])
CLASH = Book(1, [SUMS, told(0, 0, 1)])
LOOSE = Book(2, [SUMS])


def is_instance_kept(book_space, line, place):
    """Whether all fillings of the space keep this one instance."""
    first, basis = book_space
    plain = Line(line.letters, line.terms(), [])
    return value_at(line, first, place).sign == 0 and all(value_at(plain, one, place).sign == 0 for one in basis)


class Follows(unittest.TestCase):
    def check(self, book, line, is_following):
        self.assertIs(unchanged(self, follows, book, line), is_following)
        found = unchanged(self, break_by, book, line)
        if is_following:
            self.assertIsNone(found)
            return
        self.assertIsInstance(found, tuple)
        filling, place = found
        self.assertEqual([type(filling), len(filling), type(place)], [list, book.functions, list])
        self.assertEqual(len(place), line.letters)
        self.assertNotEqual(value_at(line, filling, place), Ratio(0))
        self.assertTrue(is_kept_near(book.lines(), lambda f, n: filling[f].at(n), 3))
        check_new(self, place, break_by(book, line)[1])

    def test_examples(self):
        self.check(STAMPS, Line(2, [(1, 0, [4, 1, 0]), (-2, 0, [2, 0, 0]), (-1, 0, [0, 1, 0])], []), True)
        self.check(STAMPS, SUMS, False)
        self.check(ADDING, OPPOSITE, True)
        self.check(ADDING, told(0, 0, 0), True)
        self.check(ADDING, told(0, 1, 1), False)
        self.check(ADDING, ODDS, True)
        self.assertIs(follows(book=ADDING, line=ODDS), True)
        self.assertIsNone(break_by(book=ADDING, line=ODDS))

    def test_other_letters(self):
        for letters in range(4):
            ones = [1] * letters
            line = Line(letters, [(1, 0, [*ones, 5])] + [(-1, 0, [int(k == at) for k in range(letters)] + [0])
                                                         for at in range(letters)] + [(-5, 0, [0] * letters + [1])], [])
            self.check(ADDING, line, True)
            self.check(ADDING, plus(line, Line(letters, [], [(1, [0] * letters)])), False)
            self.check(STAMPS, line, False)
        self.check(STAMPS, Line(0, [(1, 0, [3]), (-1, 0, [1]), (-1, 0, [2])], []), True)
        self.check(STAMPS, Line(0, [(1, 0, [2]), (-2, 0, [1])], []), False)
        self.check(STAMPS, Line(3, [(1, 0, [2, 2, 1, 0]), (-1, 0, [2, 0, 0, 0]), (-1, 0, [0, 2, 1, 0])], []), True)

    def test_with_rests(self):
        square = Book(1, [Line(2, SUMS.terms(), [(-2, [1, 1])])])
        self.check(square, Line(1, [(1, 0, [2, 0]), (-2, 0, [1, 0])], [(-2, [2])]), True)
        self.check(square, Line(1, [(1, 0, [2, 0]), (-2, 0, [1, 0])], [(-1, [2])]), False)
        self.check(square, Line(1, [(1, 0, [1, 0]), (1, 0, [-1, 0])], [(-2, [2])]), True)
        self.check(square, Line(1, [(1, 0, [1, 0]), (1, 0, [-1, 0])], []), False)
        self.check(square, Line(1, [], [(1, [1]), (-1, [2])]), False)
        self.check(square, Line(3, [], []), True)
        self.check(ADDING, Line(2, [(1, 0, [1, 1, 0]), (-1, 0, [1, 0, 0]), (-1, 0, [0, 1, 0])], [(1, [0, 1])]), False)

    def test_what_holds_nothing(self):
        self.check(ADDING, Line(1, [(1, 0, [1, 1]), (-2, 0, [1, 0]), (1, 0, [1, -1])], []), True)
        self.check(STAMPS, Line(1, [(1, 0, [1, 1]), (-2, 0, [1, 0]), (1, 0, [1, -1])], []), False)
        self.check(STAMPS, Line(1, [(1, 0, [1, 2]), (-2, 0, [1, 0]), (1, 0, [1, -2])], []), True)
        self.check(Book(1, [repeating(4)]), Line(1, [(1, 0, [1, 12]), (-1, 0, [1, -8])], []), True)
        self.check(Book(1, [repeating(4)]), Line(1, [(1, 0, [1, 12]), (-1, 0, [1, -6])], []), False)
        self.check(Book(1, [repeating(4)]), repeating(13), False)
        self.check(Book(1, [repeating(4)]), repeating(16), True)
        self.check(Book(1, [middles(3)]), middles(15), True)
        self.check(Book(1, [middles(3)]), middles(16), False)

    def test_many_directions(self):
        line = Line(2, [((-1) ** k * (1, 7, 21, 35, 35, 21, 7, 1)[k], 0, [1, k, 0]) for k in range(8)], [])
        for many in range(1, 5):
            self.check(Book(1, [differences(many, 1)]), line, True)
        self.check(Book(1, [repeating(7)]), line, False)

    def test_of_several_functions(self):
        self.check(SPLIT, Line(2, [(1, 1, [1, 1, 0]), (-1, 1, [1, 0, 0]), (-1, 2, [0, 1, 0]), (1, 2, [0, 0, 0])], []), True)
        self.check(SPLIT, Line(1, [(1, 1, [1, 0]), (-1, 2, [1, 0])], []), False)
        self.check(SPLIT, Line(1, [(1, 1, [1, 1]), (-1, 1, [1, 0]), (-1, 2, [1, 1]), (1, 2, [1, 0])], []), True)
        book = Book(2, [repeating(2), repeating(3, 1), Line(1, [(1, 0, [1, 0]), (-1, 1, [1, 0])], [])])
        self.check(book, Line(2, [(1, 0, [1, 0, 0]), (-1, 1, [0, 1, 0])], []), True)
        self.check(book, told(0, 0, 0), False)

    def test_lines_of_the_book(self):
        for book in small_books(61, 40):
            if is_kept(book):
                for line in book.lines():
                    self.check(book, line, True)
                    self.check(book, times(line, Ratio(2, 7)), True)
                    self.check(book, put(line, 3, [[1, 2, 0, 1], [0, -1, 2, 0], [1, 0, 0, 4]][:line.letters]), True)

    def test_nobody_keeps_what_breaks(self):
        book = Book(1, [SUMS, told(0, 2, 6)])
        self.check(book, told(0, -5, -15), True)
        self.check(book, told(0, -5, -14), False)
        self.check(book, Line(1, [(1, 0, [1, 0])], [(-3, [1])]), True)

    def test_random(self):
        draw = random.Random(62)
        seen = {True: 0, False: 0}
        for book in small_books(63, 90):
            if not is_kept(book):
                continue
            found = space(book)
            for _ in range(3):
                line = random_line(draw, book.functions, 4)
                if draw.random() < 0.5:
                    line = put(book.lines()[0], 2, [random_place(draw, 3, 2) for _ in range(2)])
                # Periods times degrees and one more are at most so many here: such a box tells all.
                low = 11 if line.letters == 2 else 24
                is_following = all(is_instance_kept(found, line, place) for place in every_place(line.letters, 0, low))
                self.check(book, line, is_following)
                seen[is_following] += 1
        self.assertTrue(min(seen.values()) > 25, seen)


class Shown(unittest.TestCase):
    def check(self, book, line, place, has_one=True):
        blend = unchanged(self, shown, book, line, place)
        if not has_one:
            self.assertIsNone(blend)
            return None
        self.assertIsInstance(blend, list)
        self.assertLessEqual(len(blend), 400)
        for one in blend:
            self.assertEqual([type(one), type(one[0]), type(one[2])], [tuple, Ratio, list])
        self.assertEqual(said(book, blend), instance(line, place))
        self.assertIs(is_shown(book, line, place, blend), True)
        self.assertIs(is_shown(book, line, as_tuples(place), as_tuples(blend)), True)
        check_new(self, blend, shown(book, line, place))
        return blend

    def test_near(self):
        for place in every_place(1, -12, 12):
            self.check(ADDING, OPPOSITE, place)
            self.check(ADDING, Line(1, [(1, 0, [1, 0])], []), place, place == [0])
            self.check(STAMPS, Line(1, [(1, 0, [3, 0]), (-3, 0, [1, 0])], []), place, place[0] % 2 == 0)
            self.check(STAMPS, Line(1, [(1, 0, [1, 3]), (-1, 0, [1, 0]), (-1, 0, [0, 3])], []), place, place[0] % 2 == 0)
        for place in every_place(2, -3, 3):
            self.check(ADDING, ODDS, place)
            self.check(STAMPS, Line(2, [(1, 0, [4, 1, 0]), (-2, 0, [2, 0, 0]), (-1, 0, [0, 1, 0])], []), place)
            self.check(STAMPS, SUMS, place, place[0] % 2 == 0 or place[1] % 2 == 0)
            self.check(Book(1, [SQUARES]), Line(2, [(1, 0, [3, 1, 0]), (1, 0, [3, -1, 0]), (-18, 0, [1, 0, 0]),
                                                    (-2, 0, [0, 1, 0])], []), place)

    def test_far(self):
        for far in [20, -21, 40, 43, -43, 150, 1000, -10 ** 6]:
            self.check(ADDING, OPPOSITE, [far])
            self.check(ADDING, SUMS, [far, far - 3])
            self.check(ADDING, told(0, 5, 1), [], False)
            self.check(ADDING, Line(0, [(1, 0, [far]), (-far, 0, [1])], []), [])
            self.check(Book(1, [repeating(5)]), repeating(10), [far, -far])
            self.check(Book(1, [middles(2)]), Line(0, [(1, 0, [0]), (-2, 0, [2 * far]), (1, 0, [4 * far])], []), [])

    def test_near_the_bound(self):
        # Of sums each value takes 4 instances; all between 43 and -43 are just within what has to be told.
        line = Line(0, [(1, 0, [43]), (1, 0, [-43]), (1, 0, [42]), (2, 0, [-41]), (1, 0, [29]), (11, 0, [1])], [])
        self.check(ADDING, line, [])
        line = Line(0, [(k, 0, [43 - 6 * k]) for k in range(1, 9)], [])
        worth = sum(k * (43 - 6 * k) for k in range(1, 9))
        self.check(Book(1, [SUMS, told(0, 1, 1)]), plus(line, Line(0, [], [(-worth, [])])), [])
        self.check(Book(1, [SUMS, told(0, 1, 1)]), plus(line, Line(0, [], [(1 - worth, [])])), [], False)

    def test_with_rests(self):
        square = Book(1, [Line(2, SUMS.terms(), [(-2, [1, 1])])])
        for place in every_place(1, -9, 9):
            self.check(square, Line(1, [(1, 0, [1, 0]), (1, 0, [-1, 0])], [(-2, [2])]), place)
            self.check(square, Line(1, [(1, 0, [1, 0]), (1, 0, [-1, 0])], [(-2, [1])]), place, place[0] in (0, 1))
        cube = Book(1, [bracket(2, 0, [(-8, [3])]), bracket(2, 1, [(5, [1])])])
        for place in every_place(1, -6, 6):
            self.check(cube, Line(1, [(1, 0, [4, 2])], [(-64, [3]), (-96, [2]), (-48, [1]), (-8, [0])]), place)
            self.check(cube, Line(1, [(1, 0, [6, 3])], [(15, [1]), (5, [0])]), place)
            self.check(cube, Line(1, [(1, 0, [1, 0])], [(-1, [3])]), place, place[0] % 2 == 0)

    def test_by_classes_of_three(self):
        book = Book(1, [bracket(3, 1, [(-1, [2])]), bracket(3, -1, [(2, [1]), (1, [0])]), bracket(3, 0, [(-1, [3])])])
        for whole in range(-40, 41):
            worth = [(whole // 3) ** 3, (whole // 3) ** 2, -2 * (whole // 3) - 3][whole % 3]
            self.check(book, told(0, whole, worth), [])
            self.check(book, told(0, whole, worth + 1), [], False)

    def test_each_instance_by_itself(self):
        draw = random.Random(64)
        seen = {True: 0, False: 0}
        for book in small_books(65, 60):
            if not is_kept(book):
                continue
            found = space(book)
            for _ in range(4):
                line = random_line(draw, book.functions, 4)
                if draw.random() < 0.4:
                    line = put(book.lines()[-1], 2, [random_place(draw, 3, 1) for _ in range(2)][:book.lines()[-1].letters])
                place = random_place(draw, line.letters, 6)
                has_one = is_instance_kept(found, line, place)
                self.check(book, line, place, has_one)
                seen[has_one] += 1
        self.assertTrue(min(seen.values()) > 15, seen)

    def test_follows_just_if_shown_everywhere(self):
        for line in [OPPOSITE, SUMS, ODDS, middles(2), repeating(2), told(0, 3, 0), PARTED]:
            book = SPLIT if line == PARTED else STAMPS
            everywhere = all(shown(book, line, place) is not None for place in every_place(line.letters, 0, 3))
            self.assertIs(follows(book, line), everywhere)

    def test_lines_that_say_nothing(self):
        for line, place in [(Line(3, [], []), [1, 2, 3]), (Line(1, [(1, 0, [1, 0]), (-1, 0, [-1, 0])], []), [0])]:
            self.check(STAMPS, line, place)
        self.check(ADDING, Line(1, [], [(1, [1])]), [0])
        self.check(ADDING, Line(1, [], [(1, [1])]), [1], False)


class IsShown(unittest.TestCase):
    def test_small(self):
        nought = told(0, 0, 0)
        self.assertIs(is_shown(ADDING, nought, [], [(-1, 0, [0, 0])]), True)
        self.assertIs(is_shown(ADDING, nought, (), ((Ratio(-1), 0, (0, 0)),)), True)
        self.assertIs(is_shown(ADDING, nought, [], [(1, 0, [0, 0])]), False)
        self.assertIs(is_shown(ADDING, nought, [], []), False)
        self.assertIs(is_shown(ADDING, OPPOSITE, [5], [(-1, 0, [5, -5]), (-1, 0, [0, 0])]), True)
        self.assertIs(is_shown(ADDING, OPPOSITE, [4], [(-1, 0, [5, -5]), (-1, 0, [0, 0])]), False)
        self.assertIs(is_shown(book=ADDING, line=Line(1, [], []), place=[3], value=[]), True)

    def test_of_every_book(self):
        loose = Book(2, [told(1, 3, 4), SUMS])
        self.assertIs(is_shown(loose, told(1, 3, 4), [], [(1, 0, [])]), True)
        self.assertIs(is_shown(loose, told(1, 3, 5), [], [(1, 0, [])]), False)
        self.assertIs(is_shown(loose, Line(0, [(2, 1, [3])], [(-8, [])]), [], [(2, 0, [])]), True)
        self.assertIs(is_shown(CLASH, Line(0, [], [(3, [])]), [], [(-3, 1, []), (-3, 0, [0, 0])]), True)
        self.assertIs(is_shown(CLASH, Line(0, [], [(3, [])]), [], [(3, 1, []), (3, 0, [0, 0])]), False)
        self.assertIs(is_shown(Book(1, []), Line(0, [], []), [], []), True)

    def test_a_number_changed(self):
        blend = shown(STAMPS, ODDS, [5, 4])
        for at, (number, position, place) in enumerate(blend):
            wrong = blend[:at] + [(number + Ratio(1, 9), position, place)] + blend[at + 1:]
            self.assertIs(is_shown(STAMPS, ODDS, [5, 4], wrong), False)
            self.assertIs(is_shown(STAMPS, ODDS, [5, 4], blend[:at] + blend[at + 1:]), False)
        self.assertIs(is_shown(STAMPS, ODDS, [5, 3], blend), False)

    def test_any_value(self):
        good = (-1, 0, [0, 0])
        wrong = not_lists() + [good, [list(good)], [good[:2]], [good + (0,)], [[good]], "blend", [None], [good, 1]]
        wrong += [[(value, 0, [0, 0])] for value in not_numbers()] + [[(-1, 0, [0, value])] for value in not_integers()]
        wrong += [[good, (0, value, [0, 0])] for value in not_counts() + [1]] + [[good] + [(0, 0, [0, 0])] * 400]
        for value in wrong:
            self.assertIs(is_shown(ADDING, told(0, 0, 0), [], value), False)
        self.assertIs(is_shown(ADDING, told(0, 0, 0), [], [good] + [(0, 0, [0, 0])] * 399), True)


class Errors(unittest.TestCase):
    def test_states(self):
        for function, more in [(follows, []), (break_by, []), (shown, [[1, 2]])]:
            for book in [LOOSE, Book(1, []), Book(1, [told(0, 0, 1), told(0, 0, 2)]), Book(1, [repeating(13)]),
                         Book(2, CLASH.lines())]:
                check_bare(self, NotHeld, function, book, SUMS, *more)
            check_bare(self, NobodyKeeps, function, CLASH, SUMS, *more)

    def test_wrong_values_come_first(self):
        for book in [LOOSE, CLASH]:
            for function in [follows, break_by]:
                check_value(self, InvalidLine, PARTED, function, book, PARTED)
            check_value(self, InvalidLine, PARTED, shown, book, PARTED, None)
            check_value(self, InvalidPlace, [1], shown, book, SUMS, [1])

    def test_refused(self):
        wrong = {"book": (InvalidBook, wrong_books()), "line": (InvalidLine, wrong_lines() + [PARTED, told(1, 0, 0)]),
                 "place": (InvalidPlace, wrong_places(2))}
        for function in [follows, break_by]:
            check_parameters(self, function, [("book", STAMPS), ("line", ODDS)], wrong)
        good = [("book", STAMPS), ("line", ODDS), ("place", [1, 2])]
        check_parameters(self, shown, good, wrong)
        for value in [[], None]:
            check_parameters(self, is_shown, good + [("value", value)], wrong)


if __name__ == "__main__":
    unittest.main()
