"""[5], [21], [22]: arguments, places and rests, and both with puts."""

import itertools
import random
import unittest
from fractions import Fraction

from helpers import (
    as_tuples, as_words, check_new, check_parameters, check_value, not_counts, not_integers, not_lists, not_numbers,
    unchanged,
)
from soughtrows.errors import InvalidArgument, InvalidLetters, InvalidMore, InvalidPlace, InvalidPuts, InvalidRest
from soughtrows.ratios import Ratio
from soughtrows.sums import argument_at, argument_put, is_argument, plain_rest, rest_at, rest_degree, rest_put

WRONG_LETTERS = not_counts() + [4, 5, 10 ** 20, Ratio(2)]


def wrong_integer_lists(many):
    """What is no list of so many INTEGERS, many above 0."""
    lists = [[0] * (many - 1), [0] * (many + 1), (0,) * (many - 1), "0" * many, [[0] * many]]
    lists.append({k: 0 for k in range(many)})
    return not_lists() + lists + [[0] * (many - 1) + [value] for value in not_integers()]


def wrong_rests(letters):
    """What is no rest in so many letters, 1 or 2."""
    nought = [0] * letters
    powers = [[value] + nought[1:] for value in [-1, 4, True, Ratio(1), None, "1"]]
    powers += [nought + [0], nought[1:], "0" * letters, None, 0, {0: 0}, nought[1:] + [2] * 2]
    powers += [[2, 2], [1, 3]] if letters == 2 else []
    pieces = [(1, told) for told in powers] + [(value, nought) for value in not_numbers()]
    pieces += [[1, nought], (1,), (1, nought, 0), (nought, 1), (), 1, None, "10", nought]
    return not_lists() + [[piece] for piece in pieces] + [[(1, nought), pieces[0]], [(1, nought)] * 21, (1, nought)]


def worth_by_fractions(rest, place):
    found = Fraction(0)
    for number, powers in rest:
        product = Fraction(number) if isinstance(number, int) else Fraction(number.top, number.bottom)
        for power, letter in zip(powers, place):
            product *= letter ** power
        found += product
    return Ratio(found.numerator, found.denominator)


def all_powers(letters, most=3):
    return [list(told) for told in itertools.product(range(most + 1), repeat=letters) if sum(told) <= most]


def random_rest(draw, letters):
    powers = all_powers(letters)
    many = draw.randint(0, 7)
    return [(Ratio(draw.randint(-4, 4), draw.randint(1, 3)), list(draw.choice(powers))) for _ in range(many)]


def random_puts(draw, letters, more):
    return [[draw.randint(-3, 3) for _ in range(more + 1)] for _ in range(letters)]


def letters_and_more():
    return list(itertools.product(range(4), repeat=2))


class Arguments(unittest.TestCase):
    def test_is_argument(self):
        for letters in range(4):
            for many in range(6):
                self.assertIs(is_argument(letters, [0] * many), many == letters + 1)
                self.assertIs(is_argument(letters, (-7,) * many), many == letters + 1)
        self.assertIs(is_argument(letters=1, value=[2, 10 ** 40]), True)

    def test_is_no_argument(self):
        for letters in range(4):
            for value in wrong_integer_lists(letters + 1):
                self.assertIs(is_argument(letters, value), False)
        self.assertIs(is_argument(1, [True, 0]), False)
        self.assertIs(is_argument(1, [1, Ratio(2)]), False)

    def test_worths(self):
        self.assertEqual(argument_at(0, [5], []), 5)
        self.assertEqual(argument_at(1, [3, -2], [4]), 10)
        self.assertEqual(argument_at(2, [2, -1, 3], [5, 4]), 9)
        self.assertEqual(argument_at(3, [1, 10, 100, 1000], [-2, 3, 5]), 1528)
        self.assertEqual(argument_at(2, (2, -1, 3), (5, 4)), 9)
        self.assertEqual(as_words(unchanged(self, argument_at, 2, [2, 0, 1], [10 ** 30, 7])), str(2 * 10 ** 30 + 1))

    def test_puts(self):
        self.assertEqual(argument_put(2, [2, -1, 3], 1, [[1, 0], [3, 1]]), [-1, 2])
        self.assertEqual(argument_put(1, [2, 5], 3, [[1, 2, 3, 4]]), [2, 4, 6, 13])
        self.assertEqual(argument_put(3, [1, 1, 1, 1], 0, [[5], [6], [7]]), [19])
        self.assertEqual(argument_put(0, [4], 2, []), [0, 0, 4])
        self.assertEqual(argument_put(0, (4,), 0, ()), [4])
        self.assertEqual(argument_put(2, [0, 0, -1], 1, [[9, 9], [9, 9]]), [0, -1])

    def test_puts_have_the_worth_of_their_place(self):
        draw = random.Random(21)
        for letters, more in letters_and_more():
            for _ in range(5):
                argument = [draw.randint(-5, 5) for _ in range(letters + 1)]
                puts, place = random_puts(draw, letters, more), [draw.randint(-9, 9) for _ in range(more)]
                found = unchanged(self, argument_put, letters, argument, more, puts)
                self.assertTrue(isinstance(found, list) and is_argument(more, found))
                own = [argument_at(more, told, place) for told in puts]
                self.assertEqual(argument_at(more, found, place), argument_at(letters, argument, own))
                self.assertEqual(argument_put(letters, as_tuples(argument), more, as_tuples(puts)), found)
                check_new(self, argument, puts, found, argument_put(letters, argument, more, puts))

    def test_puts_behind_puts(self):
        draw = random.Random(22)
        for letters, more in letters_and_more():
            argument, puts = [draw.randint(-5, 5) for _ in range(letters + 1)], random_puts(draw, letters, more)
            others = random_puts(draw, more, 2)
            both = [argument_put(more, told, 2, others) for told in puts]
            once = argument_put(letters, argument, 2, both)
            self.assertEqual(argument_put(more, argument_put(letters, argument, more, puts), 2, others), once)

    def test_refused(self):
        good = [("letters", 2), ("argument", [1, 2, 3]), ("more", 1), ("puts", [[1, 0], [0, 1]])]
        wrong = {"letters": (InvalidLetters, WRONG_LETTERS), "argument": (InvalidArgument, wrong_integer_lists(3)),
                 "place": (InvalidPlace, wrong_integer_lists(2)), "more": (InvalidMore, WRONG_LETTERS),
                 "puts": (InvalidPuts, wrong_puts())}
        check_parameters(self, argument_put, good, wrong)
        check_parameters(self, argument_at, good[:2] + [("place", [1, 2])], wrong)
        check_parameters(self, is_argument, [good[0], ("value", None)], wrong)

    def test_refused_without_letters(self):
        for value in not_lists() + [[0], (0,), [[]]]:
            check_value(self, InvalidPlace, value, argument_at, 0, [1], value)
            check_value(self, InvalidPuts, value, argument_put, 0, [1], 2, value)
        for value in not_lists() + [[], [1, 2], [True]]:
            check_value(self, InvalidArgument, value, argument_at, 0, value, [])


def wrong_puts():
    """What is not two arguments of one letter."""
    inner = [[value, [0, 1]] for value in wrong_integer_lists(2)]
    inner += [[[0, 1], value] for value in wrong_integer_lists(2)]
    return not_lists() + inner + [[], [[0, 1]], [[0, 1]] * 3, [0, 1], ([0, 1],), [[0, 1, 2], [0, 1, 2]], [[0], [0]]]


class Rests(unittest.TestCase):
    def test_plain(self):
        self.assertEqual(plain_rest(1, [(1, [2]), (Ratio(1, 2), [0]), (3, [2])]),
                         [(Ratio(1, 2), [0]), (Ratio(4), [2])])
        self.assertEqual(plain_rest(2, [(1, [1, 0]), (0, [1, 1]), (5, [0, 1]), (-1, [1, 0])]), [(Ratio(5), [0, 1])])
        self.assertEqual(plain_rest(2, [(1, [2, 0]), (1, [0, 3]), (1, [1, 1]), (1, [0, 0]), (1, [0, 1])]),
                         [(Ratio(1), told) for told in [[0, 0], [0, 1], [0, 3], [1, 1], [2, 0]]])
        self.assertEqual(plain_rest(0, [(2, []), (Ratio(-1, 2), [])]), [(Ratio(3, 2), [])])
        self.assertEqual(plain_rest(0, [(2, []), (-2, [])]), [])
        self.assertEqual(plain_rest(3, ()), [])
        self.assertEqual(as_words(plain_rest(1, ((2, (1,)),))), "[(Ratio(2, 1), [1])]")

    def test_plain_facts(self):
        draw = random.Random(23)
        for _ in range(100):
            letters = draw.randint(0, 3)
            rest, place = random_rest(draw, letters), [draw.randint(-4, 4) for _ in range(letters)]
            found = unchanged(self, plain_rest, letters, rest)
            self.assertEqual(plain_rest(letters, as_tuples(rest)), found)
            self.assertEqual(plain_rest(letters, found), found)
            powers = [told for _, told in found]
            self.assertEqual(powers, sorted(powers))
            self.assertEqual(len(powers), len(set(as_tuples(powers))))
            self.assertTrue(all(type(number) is Ratio and number.sign != 0 for number, _ in found))
            self.assertEqual(rest_at(letters, found, place), worth_by_fractions(rest, place))
            check_new(self, rest, found, plain_rest(letters, rest), plain_rest(letters, found))

    def test_worths(self):
        self.assertEqual(str(rest_at(1, [(Ratio(1, 2), [2]), (1, [0])], [3])), "11/2")
        self.assertEqual(rest_at(2, [(2, [1, 2]), (-1, [0, 1])], [3, -5]), Ratio(155))
        self.assertEqual(rest_at(2, [(1, [0, 3])], [7, -2]), Ratio(-8))
        self.assertEqual(rest_at(0, [(2, [])], []), Ratio(2))
        self.assertEqual(rest_at(3, [], [1, 2, 3]), Ratio(0))
        self.assertEqual(rest_at(1, [(5, [0])], [0]), Ratio(5))
        draw = random.Random(24)
        for _ in range(60):
            letters = draw.randint(0, 3)
            rest, place = random_rest(draw, letters), [draw.randint(-9, 9) for _ in range(letters)]
            found = unchanged(self, rest_at, letters, rest, place)
            self.assertIs(type(found), Ratio)
            self.assertEqual(found, worth_by_fractions(rest, place))
            self.assertEqual(rest_at(letters, as_tuples(rest), as_tuples(place)), found)

    def test_degrees(self):
        self.assertEqual(rest_degree(1, []), -1)
        self.assertEqual(rest_degree(1, [(0, [3])]), -1)
        self.assertEqual(rest_degree(2, [(1, [2, 1]), (-1, [2, 1])]), -1)
        self.assertEqual(rest_degree(2, [(1, [2, 1]), (1, [1, 1]), (-1, [2, 1])]), 2)
        self.assertEqual(rest_degree(0, [(4, [])]), 0)
        self.assertEqual(rest_degree(2, [(4, [0, 0]), (1, [0, 1])]), 1)
        self.assertEqual(rest_degree(3, ((1, (1, 1, 1)), (1, (0, 2, 0)))), 3)
        self.assertIs(type(rest_degree(1, [(1, [2])])), int)

    def test_powers_up_to_three(self):
        for letters in range(1, 4):
            for told in itertools.product(range(5), repeat=letters):
                rest = [(1, list(told))]
                if sum(told) <= 3:
                    self.assertEqual(plain_rest(letters, rest), [(Ratio(1), list(told))])
                    self.assertEqual(rest_degree(letters, rest), sum(told))
                else:
                    check_value(self, InvalidRest, rest, plain_rest, letters, rest)

    def test_twenty_pieces(self):
        rest = [(1, told) for told in reversed(all_powers(3))]
        self.assertEqual(len(rest), 20)
        self.assertEqual(plain_rest(3, rest), [(Ratio(1), told) for told in all_powers(3)])
        self.assertEqual(plain_rest(1, [(1, [1])] * 20), [(Ratio(20), [1])])
        self.assertEqual(plain_rest(1, ((1, [1]),) * 20), [(Ratio(20), [1])])
        for wrong in [[(1, [1])] * 21, ((1, [1]),) * 21, [(0, [0])] * 21]:
            check_value(self, InvalidRest, wrong, plain_rest, 1, wrong)

    def test_refused(self):
        for letters in [1, 2]:
            good = [("letters", letters), ("rest", [(2, [1] + [0] * (letters - 1))])]
            wrong = {"letters": (InvalidLetters, WRONG_LETTERS), "rest": (InvalidRest, wrong_rests(letters)),
                     "place": (InvalidPlace, wrong_integer_lists(letters)), "more": (InvalidMore, WRONG_LETTERS),
                     "puts": (InvalidPuts, wrong_puts())}
            check_parameters(self, plain_rest, good, wrong)
            check_parameters(self, rest_degree, good, wrong)
            check_parameters(self, rest_at, good + [("place", [3] * letters)], wrong)
            if letters == 2:
                check_parameters(self, rest_put, good + [("more", 1), ("puts", [[1, 0], [0, 1]])], wrong)


class RestsPut(unittest.TestCase):
    def test_small(self):
        self.assertEqual(rest_put(1, [(1, [2])], 2, [[1, 1, 0]]),
                         [(Ratio(1), [0, 2]), (Ratio(2), [1, 1]), (Ratio(1), [2, 0])])
        self.assertEqual(rest_put(1, [(1, [3])], 1, [[1, -1]]),
                         [(Ratio(-1), [0]), (Ratio(3), [1]), (Ratio(-3), [2]), (Ratio(1), [3])])
        self.assertEqual(rest_put(2, [(1, [1, 1]), (2, [0, 0])], 0, [[3], [5]]), [(Ratio(17), [])])
        self.assertEqual(rest_put(0, [(Ratio(1, 2), [])], 3, []), [(Ratio(1, 2), [0, 0, 0])])
        self.assertEqual(rest_put(0, [(1, [])], 0, []), [(Ratio(1), [])])
        self.assertEqual(rest_put(2, [(1, [1, 0]), (-1, [0, 1])], 1, [[1, 2], [1, 2]]), [])
        self.assertEqual(rest_put(1, [(1, [1])], 1, [[0, 0]]), [])
        self.assertEqual(rest_put(1, [(7, [0]), (1, [1])], 1, [[0, 0]]), [(Ratio(7), [0])])

    def test_has_the_worth_of_its_place(self):
        draw = random.Random(25)
        for letters, more in letters_and_more():
            for _ in range(5):
                rest, puts = random_rest(draw, letters), random_puts(draw, letters, more)
                place = [draw.randint(-5, 5) for _ in range(more)]
                found = unchanged(self, rest_put, letters, rest, more, puts)
                own = [argument_at(more, told, place) for told in puts]
                self.assertEqual(rest_at(more, found, place), rest_at(letters, rest, own))
                self.assertEqual(as_words(plain_rest(more, found)), as_words(found))
                self.assertEqual(rest_put(letters, as_tuples(rest), more, as_tuples(puts)), found)
                check_new(self, rest, puts, found, rest_put(letters, rest, more, puts))

    def test_puts_behind_puts(self):
        draw = random.Random(26)
        for letters, more in letters_and_more():
            rest, puts = random_rest(draw, letters), random_puts(draw, letters, more)
            others = random_puts(draw, more, 3)
            both = [argument_put(more, told, 3, others) for told in puts]
            once = rest_put(letters, rest, 3, both)
            self.assertEqual(rest_put(more, rest_put(letters, rest, more, puts), 3, others), once)


if __name__ == "__main__":
    unittest.main()
