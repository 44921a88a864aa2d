"""What stands below the interface: whole numbers, polynomials, spans, conditions, windows and leads."""

import itertools
import math
import random
import unittest

from known import ODDS, SQUARES, SUMS, bracket, every_place, middles, repeating
from soughtrows.books import Book, said
from soughtrows.conditions import conditions
from soughtrows.polynomials import counting, differences_of, made_of, put_sum, worth
from soughtrows.ratios import Ratio
from soughtrows.reducing import Span, kernel_rows, led_to, reduced, solved
from soughtrows.wholes import box, counts_of, counts_within, divisor_mix, lots_of, moebius, shell
from soughtrows.windows import windows_of


class Wholes(unittest.TestCase):
    def test_divisor_mix(self):
        draw = random.Random(1)
        for _ in range(200):
            numbers = [draw.randint(-30, 30) for _ in range(draw.randint(1, 4))]
            found = divisor_mix(numbers)
            self.assertEqual(sum(a * b for a, b in zip(found, numbers)), math.gcd(*numbers))
        self.assertEqual(divisor_mix([]), [])

    def test_lots(self):
        for things in range(-5, 9):
            found = lots_of(things, 6)
            for size in range(6):
                self.assertEqual(found[size] * math.factorial(size), math.prod(things - k for k in range(size)))
        self.assertEqual(lots_of(4, 0), [])

    def test_moebius(self):
        self.assertEqual([moebius(k) for k in range(1, 13)], [1, -1, -1, 0, -1, 1, -1, 0, 0, 1, -1, 0])
        self.assertEqual([moebius(30), moebius(210), moebius(60)], [-1, 1, 0])

    def test_places(self):
        for letters in range(4):
            self.assertEqual(box(letters, 3), every_place(letters, 0, 2))
            self.assertEqual(counts_within(letters, 3), [t for t in every_place(letters, 0, 3) if sum(t) <= 3])
            self.assertEqual(counts_of(letters, 2), [t for t in every_place(letters, 0, 2) if sum(t) == 2])
            together = [place for greatest in range(4) for place in shell(letters, greatest)]
            self.assertEqual(sorted(together), every_place(letters, 0, 3))


class Polynomials(unittest.TestCase):
    def test_put_sum(self):
        numbers = [Ratio(3), Ratio(-1, 2), Ratio(0), Ratio(2)]
        for by, shift, whole in itertools.product([-3, 0, 2], [-4, 0, 5], range(-3, 4)):
            self.assertEqual(worth(put_sum(numbers, by, shift), whole), worth(numbers, by * whole + shift))

    def test_counting(self):
        for step, first in [(1, 0), (3, 2), (4, -1)]:
            polynomials = counting(step, first, 5)
            for rounds in range(-3, 6):
                found = [worth(told, first + step * rounds) for told in polynomials]
                self.assertEqual(found, [Ratio(k) for k in lots_of(rounds, 5)])
            values = [Ratio(k * k * k - 7 * k) for k in range(4)]
            made = made_of(differences_of(values), counting(step, first, 4))
            self.assertEqual([worth(made, first + step * k) for k in range(4)], values)


class Rows(unittest.TestCase):
    def test_span(self):
        draw = random.Random(2)
        for _ in range(60):
            wide = draw.randint(1, 5)
            rows = [[draw.randint(-2, 2) for _ in range(wide)] for _ in range(draw.randint(0, 6))]
            span = Span()
            for at, row in enumerate(rows):
                rank = len(reduced(rows[:at], wide)[0])
                self.assertIs(span.grow(row), len(reduced(rows[:at + 1], wide)[0]) > rank)
            self.assertTrue(all(span.makes(row) for row in rows))
            for free in kernel_rows(span.rows(), wide):
                self.assertTrue(all(led_to(row, free).sign == 0 for row in rows))
            self.assertEqual(len(kernel_rows(rows, wide)) + len(span.rows()), wide)

    def test_without_rows_or_width(self):
        self.assertEqual(solved([], [], 2), [Ratio(0), Ratio(0)])
        self.assertEqual(solved([[], []], [Ratio(0), Ratio(0)], 0), [])
        self.assertIsNone(solved([[], []], [Ratio(0), Ratio(1)], 0))


class Conditions(unittest.TestCase):
    def check(self, letters, terms, pieces, wide, length):
        """Just the rows that the worths at all places of a box make are made of the conditions."""
        found, near = Span(), Span()
        for row in conditions(letters, terms, pieces, wide):
            self.assertEqual(len(row), wide)
            found.grow(row)
        for place in every_place(letters, 0, length - 1):
            row = [0] * wide
            for number, parts, argument in terms:
                whole = sum(a * x for a, x in zip(argument, [*place, 1]))
                for power, beside in enumerate(parts[whole % len(parts)]):
                    row = [a + number * b * whole ** power for a, b in zip(row, beside)]
            row[-1] += sum(number * math.prod(x ** k for x, k in zip(place, powers)) for number, powers in pieces)
            self.assertTrue(found.makes(row))
            near.grow(row)
        self.assertEqual(len(near.rows()), len(found.rows()))
        return len(found.rows())

    def test_random(self):
        draw = random.Random(3)
        ranks = set()
        for _ in range(150):
            letters, wide = draw.choice([0, 1, 2, 2, 3]), draw.randint(1, 6)
            most = draw.randint(1, 2)
            periods = [draw.choice([1, 2, 3, 4, 6]) if letters < 3 else draw.choice([1, 2]) for _ in range(2)]
            functions = [[[[draw.randint(-1, 1) for _ in range(wide)] for _ in range(draw.randint(0, most))]
                          for _ in range(period)] for period in periods]
            terms = [(draw.choice([1, -1, 2]), draw.choice(functions),
                      [draw.randint(-2, 2) for _ in range(letters)] + [draw.randint(-3, 3)])
                     for _ in range(draw.randint(0, 4))]
            pieces = [(draw.randint(1, 3), [draw.randint(0, 1) for _ in range(letters)])] * draw.randint(0, 1)
            length = math.lcm(*periods) * (max(most, sum(pieces[0][1]) + 1 if pieces else 0))
            ranks.add(self.check(letters, terms, pieces, wide, length))
        self.assertTrue(len(ranks) > 5)

    def test_directions_alike_by_the_period(self):
        parts = [[[1 if k == at else 0 for k in range(6)]] for at in range(5)]
        # By 5 the direction (1, -3) is (1, 2), (2, -1) is twice that, and (1, 1) is no multiple of it.
        for other, rank in [([1, -3, 0], 0), ([2, -1, 0], 3), ([1, 1, 0], 4), ([1, -3, 1], 4)]:
            self.assertEqual(self.check(2, [(1, parts, [1, 2, 0]), (-1, parts, other)], [], 6, 5), rank)


class Windows(unittest.TestCase):
    BOOKS = [Book(1, [SUMS]), Book(1, [ODDS]), Book(1, [SQUARES]), Book(1, [middles(3)]), Book(1, [repeating(5)]),
             Book(1, [bracket(2, 1), bracket(4, 4), bracket(-4, 2)]),
             Book(1, [bracket(5, 7 * left, [(left, [2])]) for left in range(5)])]

    def test_leads(self):
        for book in self.BOOKS:
            window = windows_of(book)[0]
            wide = window.width()
            for whole in [-1, -2, -wide, -wide - 1, -25, wide, wide + 1, 2 * wide, 31, 100, -100]:
                for is_far in [False, True]:
                    blend, values = window.leading(whole, Ratio(3, 2), is_far)
                    told_values = {at: number for at, number in values if number.sign != 0}
                    self.assertEqual(told_values[whole], Ratio(3, 2))
                    self.assertEqual({at: number for _, at, number in said(book, blend)[0]}, told_values)
                    low, high = min(whole, 0), max(whole, wide - 1)
                    self.assertTrue(all(low <= at <= high for at in told_values))

    def test_shares(self):
        for book in self.BOOKS:
            window = windows_of(book)[0]
            numbers = [Ratio(7 * k % 5, 1 + k % 3) for k in range(window.width())]
            course = window.course(numbers, 1)
            self.assertEqual(window.read(course), numbers)
            for whole in range(-20, 30):
                told_shares, beside = window.share(whole)
                found = beside + Ratio.total([numbers[at] * many for at, many in told_shares])
                self.assertEqual(course.at(whole), found)


if __name__ == "__main__":
    unittest.main()
