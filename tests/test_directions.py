"""[31], [32]: directions, and what stands alone: class, pace and order."""

import itertools
import math
import random
import unittest

from helpers import (
    as_words, check_bare, check_new, check_parameters, check_value, not_counts, not_integers, not_lists, unchanged,
)
from soughtrows.directions import alone, class_of, direction, order, pace
from soughtrows.errors import InvalidArgument, InvalidLetters, InvalidLine, InvalidPosition, NotAlone
from soughtrows.lines import Line
from soughtrows.ratios import Ratio

ODD = Line(2, [(1, 0, [2, 1, 0]), (-1, 0, [2, 0, 0]), (-1, 0, [0, 1, 0])], [])


def line_of(letters, *arguments):
    """A line with these arguments of the function 0, each once."""
    return Line(letters, [(1, 0, argument) for argument in arguments], [])


def at(line, argument):
    """The position of the term with the argument."""
    return [told for _, _, told in line.terms()].index(argument)


def pace_by_looking(part, others):
    """The pace, by looking at all lists of small numbers."""
    found = math.gcd(*part) if not others else 1
    for other in others:
        worths = [abs(sum(map(int.__mul__, part, many))) for many in itertools.product(range(-7, 8), repeat=len(part))
                  if sum(map(int.__mul__, other, many)) == 0]
        found = math.lcm(found, min(worth for worth in worths if worth > 0))
    return found


class Directions(unittest.TestCase):
    def test_small(self):
        self.assertEqual(direction(0, [5]), None)
        self.assertEqual(direction(1, [0, 5]), None)
        self.assertEqual(direction(2, [0, 0, 3]), None)
        self.assertEqual(direction(3, [0, 0, 0, 0]), None)
        self.assertEqual([direction(1, told) for told in [[2, 0], [1, 1], [-3, 0], [7, -7]]], [[1]] * 4)
        self.assertEqual(direction(2, [-4, 6, 1]), [2, -3])
        self.assertEqual(direction(2, [4, -6, 2]), [2, -3])
        self.assertEqual(direction(2, [0, -6, 5]), [0, 1])
        self.assertEqual(direction(2, [5, 0, 0]), [1, 0])
        self.assertEqual(direction(2, [4, 9, 0]), [4, 9])
        self.assertEqual(direction(3, [0, -4, 2, 3]), [0, 2, -1])
        self.assertEqual(direction(3, (0, 0, -9, 3)), [0, 0, 1])
        self.assertEqual(direction(3, [-6, 10, -15, 1]), [6, -10, 15])
        self.assertEqual(direction(argument=[-2, 2, 0], letters=2), [1, -1])

    def test_facts(self):
        draw = random.Random(31)
        for _ in range(200):
            letters = draw.randint(1, 3)
            argument = [draw.randint(-6, 6) for _ in range(letters + 1)]
            found = unchanged(self, direction, letters, argument)
            if not any(argument[:-1]):
                self.assertIs(found, None)
                continue
            self.assertEqual(math.gcd(*found), 1)
            self.assertTrue([number for number in found if number != 0][0] > 0)
            self.assertTrue(all(one * argument[j] == found[j] * argument[i]
                                for i, one in enumerate(found) for j in range(letters)))
            self.assertEqual(direction(letters, [3 * number for number in argument[:-1]] + [9]), found)
            self.assertEqual(direction(letters, tuple(-number for number in argument)), found)
            self.assertIs(type(found), list)
            check_new(self, argument, found, direction(letters, argument))

    def test_refused(self):
        arguments = not_lists() + [[], [1, 2], [1, 2, 3, 4], "123", [[1, 2, 3]], {0: 1, 1: 1, 2: 1}]
        arguments += [[1, 2, value] for value in not_integers()] + [[value, 1, 2] for value in not_integers()]
        wrong = {"letters": (InvalidLetters, not_counts() + [4, 10 ** 20, Ratio(2)]),
                 "argument": (InvalidArgument, arguments)}
        check_parameters(self, direction, [("letters", 2), ("argument", [1, 2, 3])], wrong)


class Alone(unittest.TestCase):
    def test_small(self):
        self.assertEqual(alone(ODD), [0, 1, 2])
        self.assertEqual(alone(Line(1, [(1, 0, [1, 0]), (1, 1, [-2, 0])], [])), [])
        self.assertEqual(alone(line_of(1, [1, 0])), [0])
        self.assertEqual(alone(line_of(1, [1, 0], [0, 5])), [1])
        self.assertEqual(alone(line_of(1, [1, 0], [1, 1])), [])
        self.assertEqual(alone(line_of(0, [5])), [])
        self.assertEqual(alone(Line(2, [], [(1, [1, 1])])), [])
        self.assertEqual(alone(line_of(2, [0, 0, 1], [0, 1, 0], [0, 2, 1], [1, 0, 0], [1, 1, 0])), [3, 4])
        self.assertEqual(alone(line=line_of(3, [1, 2, 3, 0], [-1, -2, -3, 1], [1, 2, 4, 0])), [2])

    def test_like_terms_are_joined(self):
        joined = Line(1, [(1, 0, [1, 0]), (2, 0, [1, 0])], [])
        self.assertEqual(alone(joined), [0])
        gone = Line(2, [(1, 0, [1, 0, 0]), (1, 0, [2, 0, 0]), (-1, 0, [2, 0, 0]), (0, 1, [3, 0, 0])], [])
        self.assertEqual(alone(gone), [0])
        self.assertEqual((pace(gone, 0), order(gone, 0)), (1, 1))

    def test_of_whatever_function(self):
        for one, two in itertools.product(range(3), repeat=2):
            self.assertEqual(alone(Line(2, [(1, one, [1, 1, 0]), (1, two, [2, 2, 1])], [])), [])
            self.assertEqual(alone(Line(2, [(1, one, [1, 1, 0]), (1, two, [1, 2, 1])], [])), [0, 1])

    def test_new(self):
        found = alone(ODD)
        self.assertEqual(as_words(found), "[0, 1, 2]")
        check_new(self, found, alone(ODD))


class PaceOrderClass(unittest.TestCase):
    def check(self, line, argument, told):
        position = at(line, argument)
        found = (pace(line, position), order(line, position), class_of(line, position))
        self.assertEqual(found, told)
        self.assertEqual(as_words(found), as_words(told))

    def test_no_other_direction(self):
        self.check(line_of(1, [1, 0]), [1, 0], (1, 1, (1, 0)))
        self.check(line_of(1, [-6, 4]), [-6, 4], (6, 1, (6, 4)))
        self.check(line_of(1, [5, -3], [0, 1]), [5, -3], (5, 1, (5, 2)))
        self.check(line_of(2, [4, -6, 7], [0, 0, 1], [0, 0, 2]), [4, -6, 7], (2, 1, (2, 1)))
        self.check(line_of(3, [0, 0, -3, -1]), [0, 0, -3, -1], (3, 1, (3, 2)))

    def test_one_other_direction(self):
        self.check(line_of(2, [1, 0, 0], [0, 1, 0]), [1, 0, 0], (1, 1, (1, 0)))
        self.check(line_of(2, [2, 0, 1], [1, 3, 0]), [2, 0, 1], (6, 1, (2, 1)))
        self.check(line_of(2, [2, 0, 1], [1, 3, 0]), [1, 3, 0], (3, 1, (1, 0)))
        self.check(line_of(3, [1, 0, 0, 0], [1, 2, 0, 0]), [1, 0, 0, 0], (2, 1, (1, 0)))
        self.check(line_of(3, [1, 1, 0, 0], [0, 1, 1, -4]), [0, 1, 1, -4], (1, 1, (1, 0)))

    def test_two_alike(self):
        line = line_of(2, [1, 0, 0], [1, 3, 0], [2, 6, 1], [-1, -3, 0])
        self.assertEqual(alone(line), [at(line, [1, 0, 0])])
        self.check(line, [1, 0, 0], (3, 1, (1, 0)))

    def test_several(self):
        self.check(ODD, [2, 1, 0], (2, 2, (1, 0)))
        self.check(ODD, [2, 0, 0], (2, 2, (2, 0)))
        self.check(ODD, [0, 1, 0], (2, 2, (1, 0)))
        line = line_of(2, [1, 0, 0], [1, 2, 0], [1, 3, 0], [1, 5, 0], [0, 0, 9])
        self.check(line, [1, 0, 0], (30, 3, (1, 0)))
        self.check(line, [1, 2, 0], (math.lcm(2, 1, 3), 3, (1, 0)))
        three = line_of(3, [2, 0, 0, 5], [0, 1, 0, 0], [1, 3, 0, 0], [1, 0, 5, 0], [1, 2, 2, 0])
        self.check(three, [2, 0, 0, 5], (math.lcm(2, 6, 10, 4), 4, (2, 1)))

    def test_functions_do_not_count(self):
        line = Line(2, [(1, 0, [1, 0, 0]), (1, 1, [1, 2, 0]), (1, 2, [1, 3, 0])], [(1, [1, 1])])
        self.assertEqual([(pace(line, k), order(line, k)) for k in range(3)], [(6, 2), (2, 2), (3, 2)])

    def test_many_directions(self):
        line = line_of(2, *[[1, k, 0] for k in range(8)])
        self.assertEqual([order(line, k) for k in range(8)], [7] * 8)
        self.assertEqual(pace(line, 0), math.lcm(*range(1, 8)))

    def test_by_looking(self):
        draw = random.Random(32)
        seen = 0
        for _ in range(150):
            letters = draw.randint(2, 3)
            most = 3 if letters == 2 else 2
            line = line_of(letters, *[[draw.randint(-most, most) for _ in range(letters)] + [draw.randint(-9, 9)]
                                      for _ in range(draw.randint(1, 4))])
            terms = line.terms()
            for position in alone(line):
                argument = terms[position][2]
                others = [direction(letters, told) for k, (_, _, told) in enumerate(terms) if k != position]
                others = [list(way) for way in {tuple(way) for way in others if way is not None}]
                common = math.gcd(*argument[:-1])
                told = (pace_by_looking(argument[:-1], others), max(1, len(others)), (common, argument[-1] % common))
                self.check(line, argument, told)
                self.assertEqual(pace(line, position) % common, 0)
                seen += 1
        self.assertTrue(seen > 100)

    def test_refused(self):
        lines = (InvalidLine, not_lists() + [[], [ODD], Line, "line"])
        positions = (InvalidPosition, not_counts() + [3, 4, 10 ** 20, Ratio(1)])
        check_parameters(self, alone, [("line", ODD)], {"line": lines})
        for function in [pace, order, class_of]:
            check_parameters(self, function, [("line", ODD), ("position", 1)], {"line": lines, "position": positions})
            check_value(self, InvalidPosition, 0, function, Line(1, [], []), 0)

    def test_not_alone(self):
        line = line_of(2, [0, 0, 1], [0, 1, 0], [0, 2, 1], [1, 0, 0])
        for function in [pace, order, class_of]:
            for position in range(3):
                check_bare(self, NotAlone, function, line, position)
            check_value(self, InvalidPosition, 4, function, line, 4)
            check_bare(self, NotAlone, function, line_of(0, [5]), 0)
        self.assertEqual([pace(line, 3), order(line, 3), class_of(line, 3)], [1, 1, (1, 0)])


if __name__ == "__main__":
    unittest.main()
