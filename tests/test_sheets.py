"""[33] to [37]: sheets, what they say, and what a book holds."""

import itertools
import math
import random
import unittest

from brute import is_held_by, room_of
from helpers import (
    as_tuples, as_words, check_bare, check_new, check_parameters, check_value, not_counts, not_integers, not_lists,
    unchanged,
)
from known import (
    ADDING, ODDS, PARTED, SPLIT, SQUARES, SUMS, bracket, differences, middles, random_line, repeating, told,
    wrong_books, wrong_functions, wrong_places,
)
from soughtrows.books import Book, renamed, said
from soughtrows.directions import alone, class_of, order, pace
from soughtrows.errors import InvalidBook, InvalidFunction, InvalidPlace, InvalidSheet, NotHeld
from soughtrows.lines import Line, put, times
from soughtrows.ratios import Ratio
from soughtrows.sheets import is_held, is_sheet, loose, room, sheet_blend, sheets, steps_of

PAIR = Book(2, [ODDS])
SHEET = (0, 0, [[0, 2], [-1, 2]])
# Of three letters: f(2x + 1), g(x + y), f(z), g(4), h(x + y + z).
WIDE = Line(3, [(3, 0, [2, 0, 0, 1]), (1, 1, [1, 1, 0, 0]), (-1, 0, [0, 0, 1, 0]), (5, 1, [0, 0, 0, 4]),
                (Ratio(1, 2), 2, [1, 1, 1, 0])], [(1, [1, 1, 1]), (2, [0, 0, 0])])


def no_sheets():
    """What is no sheet of PAIR."""
    shifts = not_lists() + [[], (), [[0, 2]], [[-1, 2]], [[0, 2]] * 6 + [[-1, 2]], [[0, 2], [-1, 2], [0, 0]],
                            [[0, 2], [-1, 2], [3, 0]], [[2, 0], [1, 0]], [[0, 2], [-1]], [[0, 2], [-1, 2, 0]],
                            [[0, 2], -1], [[0, 2], "12"], {0: [0, 2]}, [0, 2], [[[0, 2], [-1, 2]]]]
    shifts += [[[0, 2], [-1, value]] for value in not_integers()]
    found = not_lists() + [[0, 0, SHEET[2]], (0, 0), SHEET + (0,), (SHEET,), [SHEET], (), "000", (0, SHEET[2], 0)]
    found += [(0, 0, value) for value in shifts]
    found += [(value, 0, SHEET[2]) for value in not_counts() + [1, 2, 10 ** 20]]
    return found + [(0, value, SHEET[2]) for value in not_counts() + [3, 4, 10 ** 20]]


def all_lots(shifts):
    """All lots of the shifts, in the sequence that the document tells."""
    if not shifts:
        return [[]]
    return all_lots(shifts[1:]) + [[shifts[0], *lot] for lot in all_lots(shifts[1:])]


def taken_differences(number, function, whole, steps):
    """A number times the differences by the steps, one behind another, as values."""
    worths = {whole: Ratio(1) * number}
    for step in steps:
        ahead = {}
        for at, by in worths.items():
            ahead[at + step] = ahead.get(at + step, Ratio(0)) + by
            ahead[at] = ahead.get(at, Ratio(0)) - by
        worths = ahead
    return [(function, at, worths[at]) for at in sorted(worths) if worths[at].sign != 0]


class IsSheet(unittest.TestCase):
    def test_sheets(self):
        for shifts in [SHEET[2], [[-1, 2], [0, 2]], [[0, 5], [1, -2], [3, 3]], [[0, -1], [-2, 4]], [[0, 1], [5, -10]],
                       [[0, 2], [-1, 2], [1, 1], [7, 0], [0, -9]], [[0, 10 ** 29], [10 ** 28, -2 * 10 ** 28]]]:
            strikes = all(2 * x + y != 0 for x, y in shifts) and any(x == 0 for x, _ in shifts)
            strikes = strikes and any(y == 0 for _, y in shifts)
            self.assertIs(is_sheet(PAIR, 0, (0, 2, shifts)), strikes)
        for value in [SHEET, (0, 0, ((0, 2), (-1, 2))), (0, 0, ([0, 2], (-1, 2))), (0, 0, [[-1, 2], [0, 2]])]:
            self.assertIs(unchanged(self, is_sheet, PAIR, 0, value), True)
        self.assertIs(is_sheet(book=PAIR, function=0, value=SHEET), True)

    def test_of_the_function_alone(self):
        self.assertIs(is_sheet(PAIR, 1, SHEET), False)
        for position, shifts in enumerate([[[1, 0], [0, 1]], [[1, -1], [1, 0]], [[1, -1], [0, 1]]]):
            for function in range(3):
                self.assertIs(is_sheet(SPLIT, function, (0, position, shifts)), function == position)

    def test_no_sheets(self):
        for value in no_sheets():
            self.assertIs(is_sheet(PAIR, 0, value), False, value)
        self.assertIs(is_sheet(Book(1, []), 0, SHEET), False)

    def test_what_does_not_stand_alone(self):
        line = Line(2, [(1, 0, [1, 0, 0]), (1, 0, [1, 0, 1]), (1, 0, [0, 1, 0]), (2, 0, [0, 0, 3])], [])
        book = Book(1, [line])
        self.assertEqual(alone(line), [1])
        for position in range(4):
            self.assertIs(is_sheet(book, 0, (0, position, [[1, 1]])), False)
            self.assertIs(is_sheet(book, 0, (0, position, [[0, 1]])), position == 1)

    def test_lines_of_no_letter_have_none(self):
        book = Book(1, [told(0, 3, 1)])
        for shifts in [[[]], [[], []], [[0]], []]:
            self.assertIs(is_sheet(book, 0, (0, 0, shifts)), False)

    def test_without_other_directions(self):
        book = Book(1, [bracket(2, 1), bracket(-3, 0)])
        for many in range(1, 6):
            self.assertIs(is_sheet(book, 0, (0, 0, [[k + 1] for k in range(many)])), True)
            self.assertIs(is_sheet(book, 0, (1, 0, [[-1]] * many)), True)
        for shifts in [[[1]] * 6, [[0]], [[1], [0]], [], [[1, 1]]]:
            self.assertIs(is_sheet(book, 0, (0, 0, shifts)), False)

    def test_bad_terms_have_sheets_too(self):
        line = differences(2, 13)
        position = [argument for _, _, argument in line.terms()].index([1, 0, 0])
        self.assertIs(is_sheet(Book(1, [line]), 0, (0, position, [[13, -1], [26, -1]])), True)
        wide = Line(2, [(1, 0, [1, k, 0]) for k in range(7)], [])
        found = [[k, -1] for k in range(1, 7)]
        self.assertIs(is_sheet(Book(1, [wide]), 0, (0, 0, found)), False)

    def test_refused(self):
        wrong = {"book": (InvalidBook, wrong_books()), "function": (InvalidFunction, wrong_functions(2))}
        check_parameters(self, is_sheet, [("book", PAIR), ("function", 0), ("value", SHEET)], wrong)


class WhatSheetsSay(unittest.TestCase):
    def test_steps(self):
        self.assertEqual(as_words(steps_of(PAIR, SHEET)), "[2, 2]")
        self.assertEqual(steps_of(PAIR, (0, 2, ((0, 5), (3, 0), (-1, 1)))), [5, 6, -1])
        self.assertEqual(steps_of(book=Book(1, [bracket(-3, 1)]), sheet=(0, 0, [[2], [-1]])), [-6, 3])
        check_new(self, steps_of(PAIR, SHEET), steps_of(PAIR, SHEET))

    def test_sequence_and_signs(self):
        found = sheet_blend(PAIR, SHEET, [0, 0])
        self.assertEqual(as_words(found), "[(Ratio(1, 1), 0, [0, 0]), (Ratio(-1, 1), 0, [-1, 2]), "
                                          "(Ratio(-1, 1), 0, [0, 2]), (Ratio(1, 1), 0, [-1, 4])]")
        book = Book(1, [SUMS, bracket(1, 0)])
        self.assertEqual(as_words(sheet_blend(book, (1, 0, ((3,),)), (4,))),
                         "[(Ratio(-1, 1), 1, [4]), (Ratio(1, 1), 1, [7])]")

    def test_sequence_of_many(self):
        book = Book(1, [bracket(1, 0)])
        for many in range(1, 6):
            shifts = [[10 ** k] for k in range(many)]
            found = sheet_blend(book, (0, 0, shifts), [5])
            lots = all_lots(shifts)
            self.assertEqual([place for _, _, place in found], [[5 + sum(told[0] for told in lot)] for lot in lots])
            self.assertEqual([number for number, _, _ in found], [Ratio((-1) ** (many - len(lot))) for lot in lots])

    def test_what_it_says(self):
        draw = random.Random(36)
        book = Book(3, [SUMS, PARTED, WIDE, ODDS, times(middles(3), Ratio(2, 3)), bracket(-2, 1, [(1, [3])])])
        seen = 0
        for _ in range(400):
            at = draw.randrange(6)
            line = book.lines()[at]
            position = draw.choice(alone(line))
            shifts = [[draw.randint(-3, 3) for _ in range(line.letters)] for _ in range(draw.randint(1, 5))]
            number, function, argument = line.terms()[position]
            if not is_sheet(book, function, (at, position, shifts)):
                continue
            far = draw.choice([3, 10 ** 6, 10 ** 20])
            place = [draw.randint(-far, far) for _ in range(line.letters)]
            blend = unchanged(self, sheet_blend, book, (at, position, shifts), place)
            self.assertEqual(sheet_blend(book, as_tuples((at, position, shifts)), tuple(place)), blend)
            check_new(self, shifts, place, blend, sheet_blend(book, (at, position, shifts), place))
            whole = sum(a * x for a, x in zip(argument, [*place, 1]))
            steps = steps_of(book, (at, position, shifts))
            self.assertEqual(said(book, blend)[0], taken_differences(number, function, whole, steps))
            seen += 1
        self.assertTrue(seen > 40, seen)

    def test_refused(self):
        good = [("book", PAIR), ("sheet", SHEET)]
        wrong = {"book": (InvalidBook, wrong_books()), "sheet": (InvalidSheet, no_sheets())}
        check_parameters(self, steps_of, good, wrong)
        wrong["place"] = (InvalidPlace, wrong_places(2))
        check_parameters(self, sheet_blend, good + [("place", [1, 2])], wrong)

    def test_sheets_of_any_function(self):
        book = Book(3, [PARTED])
        for position, (_, function, _) in enumerate(PARTED.terms()):
            for shifts in [[[1, 0], [0, 1]], [[1, 0], [1, -1]], [[0, 1], [1, -1]]]:
                if is_sheet(book, function, (0, position, shifts)):
                    self.assertEqual(len(steps_of(book, (0, position, shifts))), 2)
                else:
                    check_value(self, InvalidSheet, (0, position, shifts), steps_of, book, (0, position, shifts))


class Held(unittest.TestCase):
    def check(self, book, told_loose, told_room=None):
        self.assertEqual(as_words(loose(book)), as_words(told_loose))
        self.assertEqual([is_held(book, k) for k in range(book.functions)],
                         [k not in told_loose for k in range(book.functions)])
        self.assertEqual(told_loose, [k for k in range(book.functions) if not is_held_by(book, k)])
        if told_loose:
            check_bare(self, NotHeld, room, book)
        else:
            self.assertEqual(as_words(room(book)), as_words(told_room))
            self.assertEqual(room_of(book), told_room)

    def test_known(self):
        self.check(ADDING, [], 2)
        self.check(Book(1, [ODDS]), [], 4)
        self.check(PAIR, [1])
        self.check(Book(1, [SQUARES]), [], 3)
        self.check(SPLIT, [], 6)
        self.check(Book(1, []), [0])
        self.check(Book(3, []), [0, 1, 2])
        self.check(Book(3, [SUMS, times(PARTED, 0)]), [1, 2])
        self.check(Book(1, [told(0, 1, 1), Line(1, [], [(1, [1])])]), [0])
        for many in range(1, 13):
            self.check(Book(1, [middles(many)]), [], 2 * many)
            self.check(Book(1, [repeating(many)]), [], many)

    def test_by_classes(self):
        for size in [2, 3, 4, 6]:
            lines = [bracket(size, left + size * (left - 1)) for left in range(size)]
            self.check(Book(1, lines), [], size)
            for left in range(size):
                self.check(Book(1, lines[:left] + lines[left + 1:]), [0])
                self.check(Book(1, lines[:left] + [bracket(-size, left)] + lines[left + 1:]), [], size)

    def test_by_classes_of_unlike_sizes(self):
        lines = [bracket(2, 0), bracket(3, 0), bracket(4, 1), bracket(6, 1), bracket(12, 11)]
        self.check(Book(1, lines), [], 12)
        for left in range(5):
            self.check(Book(1, lines[:left] + lines[left + 1:]), [0])
        two = [bracket(2, 0, function=1), bracket(2, 0), bracket(2, 1), bracket(2, 0, function=1)]
        self.check(Book(2, two), [1])
        self.check(Book(2, two + [bracket(2, 1, function=1)]), [], 4)

    def test_classes_with_orders(self):
        even = Line(2, [(1, 0, [2, 6, 0]), (1, 0, [2, -6, 0]), (-2, 0, [2, 0, 0])], [])
        self.check(Book(1, [even]), [0])
        self.check(Book(1, [even, bracket(2, 1)]), [], 12 * 2)
        self.check(Book(1, [even, bracket(2, 1), bracket(5, 1)]), [], 60 * 2)
        self.check(Book(1, [even, bracket(2, 1), bracket(4, 1), SUMS]), [], 2)

    def test_one_line_for_all_classes(self):
        line = Line(3, [(1, 0, [2, 0, 0, 0]), (1, 0, [0, 2, 0, 1]), (1, 1, [0, 0, 1, 0])], [])
        self.check(Book(2, [line]), [], 2 * 2 + 2)
        self.check(Book(1, [Line(1, [(1, 0, [2, 0]), (1, 0, [2, 1])], [])]), [0])

    def test_paces_above_twelve(self):
        for step in [12, 13, 24]:
            self.check(Book(1, [repeating(step)]), [] if step == 12 else [0], step)
            self.check(Book(1, [middles(step)]), [] if step == 12 else [0], 2 * step)
        self.check(Book(1, [repeating(13), repeating(7)]), [], 7)
        self.check(Book(1, [bracket(12, left) for left in range(6)]), [0])
        self.check(Book(1, [bracket(13, 0)]), [0])

    def test_orders_above_five(self):
        for many, told_room in [(4, 4 + 8), (5, 5 + 10), (6, None), (7, None)]:
            line = Line(3, [(1, 0, [1, 0, 0, 0])] + [(1, 1, [k, 0, 1, 0]) for k in range(many)], [])
            self.check(Book(2, [line]), [0, 1] if many > 5 else [], told_room)
            self.check(Book(2, [line, repeating(3, 1)]), [0] if many > 5 else [], many + 3)

    def test_the_least_room(self):
        self.check(Book(1, [middles(6), repeating(11)]), [], 11)
        self.check(Book(1, [middles(6), middles(5)]), [], 10)
        self.check(Book(1, [bracket(2, 0), bracket(2, 1), middles(6)]), [], 12)
        self.check(Book(2, [SUMS, repeating(9, 1)]), [], 11)

    def test_functions_exchanged(self):
        book = Book(3, [ODDS, repeating(5, 1), bracket(2, 0, function=2), bracket(2, 1, function=2)])
        self.check(book, [], 11)
        for exchanged in itertools.permutations(range(3)):
            self.check(renamed(book, list(exchanged)), [], 11)
        book = Book(3, [ODDS, PARTED, times(PARTED, 2), bracket(2, 0, function=2)])
        loose_two = Book(3, [ODDS, bracket(2, 0, function=2)])
        for exchanged in itertools.permutations(range(3)):
            self.check(renamed(loose_two, exchanged), sorted(exchanged[1:]))
            self.check(renamed(book, exchanged), [], 6)

    def test_letters_changed(self):
        puts = [[[1, 3, 5], [0, 1, -2]], [[0, 1, 0], [1, 0, 0]], [[2, 1, 7], [1, 1, 0]], [[-1, 0, 1], [4, 1, 0]]]
        for line, told_room in [(ODDS, 4), (SUMS, 2), (SQUARES, 3), (middles(5), 10), (repeating(7), 7)]:
            for one in puts:
                self.check(Book(1, [put(line, 2, one)]), [], told_room)

    def test_lines_multiplied_and_exchanged(self):
        lines = [middles(4), repeating(3, 1), bracket(2, 1), told(0, 3, 5)]
        for sequence in itertools.permutations(lines):
            self.check(Book(2, [times(line, Ratio(-2, 3)) for line in sequence]), [], 11)
            self.check(Book(2, [*sequence, lines[0], lines[1]]), [], 11)
        self.check(Book(2, [lines[0], times(lines[1], 0)]), [1])

    def test_random(self):
        draw = random.Random(33)
        seen = {0: 0, 1: 0, 2: 0, 3: 0}
        for _ in range(300):
            functions = draw.randint(1, 3)
            book = Book(functions, [random_line(draw, functions) for _ in range(draw.randint(1, 5))])
            found = [k for k in range(functions) if not is_held_by(book, k)]
            self.check(book, found, None if found else room_of(book))
            seen[len(found)] += 1
        self.assertTrue(all(many > 15 for many in seen.values()), seen)

    def test_refused(self):
        books = (InvalidBook, wrong_books())
        functions = (InvalidFunction, wrong_functions(2))
        check_parameters(self, is_held, [("book", PAIR), ("function", 0)], {"book": books, "function": functions})
        check_parameters(self, loose, [("book", PAIR)], {"book": books})
        check_parameters(self, room, [("book", ADDING)], {"book": books})
        check_parameters(self, sheets, [("book", PAIR), ("function", 0)], {"book": books, "function": functions})
        check_new(self, loose(Book(3, [])), loose(Book(3, [])))


class SheetsOfHeld(unittest.TestCase):
    def check(self, book, function):
        """As the document tells: sheets of good terms, one step, as many shifts, classes that cover all."""
        found = unchanged(self, sheets, book, function)
        self.assertIsInstance(found, list)
        self.assertTrue(1 <= len(found) <= 48)
        classes = []
        for sheet in found:
            self.assertIs(is_sheet(book, function, sheet), True)
            self.assertTrue(all(isinstance(one, list) for one in [sheet[2], *sheet[2]]))
            line = book.lines()[sheet[0]]
            self.assertTrue(pace(line, sheet[1]) <= 12 and order(line, sheet[1]) <= 5)
            classes.append(class_of(line, sheet[1]))
        self.assertEqual(len({len(sheet[2]) for sheet in found}), 1)
        self.assertEqual(len({step for sheet in found for step in steps_of(book, sheet)}), 1)
        common = math.lcm(*[size for size, _ in classes])
        self.assertTrue(all(any(whole % size == left for size, left in classes) for whole in range(common)))
        check_new(self, found, sheets(book, function))

    def test_known(self):
        for book in [ADDING, Book(1, [ODDS]), Book(1, [SQUARES]), SPLIT, Book(1, [middles(12)]),
                     Book(1, [bracket(3, left) for left in range(3)]), Book(1, [bracket(2, 1), bracket(-4, 4),
                                                                                 bracket(4, -2)])]:
            for function in range(book.functions):
                self.check(book, function)

    def test_unlike_paces_and_orders(self):
        even = Line(2, [(1, 0, [2, 6, 0]), (1, 0, [2, -6, 0]), (-2, 0, [2, 0, 0])], [])
        self.check(Book(1, [even, bracket(4, 1), bracket(4, 3)]), 0)
        self.check(Book(3, [WIDE, bracket(2, 0), PARTED]), 0)
        self.check(Book(3, [WIDE, bracket(2, 0), PARTED]), 1)

    def test_random(self):
        draw = random.Random(37)
        seen = 0
        for _ in range(200):
            functions = draw.randint(1, 3)
            book = Book(functions, [random_line(draw, functions, 5) for _ in range(draw.randint(1, 4))])
            for function in range(functions):
                if is_held_by(book, function):
                    self.check(book, function)
                    seen += 1
                else:
                    check_bare(self, NotHeld, sheets, book, function)
        self.assertTrue(seen > 60, seen)

    def test_not_held(self):
        check_bare(self, NotHeld, sheets, PAIR, 1)
        self.check(PAIR, 0)
        check_bare(self, NotHeld, sheets, Book(1, [bracket(2, 0)]), 0)
        check_bare(self, NotHeld, sheets, Book(1, [repeating(13)]), 0)
        check_value(self, InvalidFunction, 2, sheets, PAIR, 2)
        check_value(self, InvalidFunction, True, sheets, PAIR, True)


if __name__ == "__main__":
    unittest.main()
