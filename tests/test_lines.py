"""[6], [7], [23], [24]: lines, their instances, and lines made of lines."""

import itertools
import random
import unittest

from helpers import (
    as_tuples, as_words, check_bare, check_new, check_parameters, check_too_many, check_value, not_counts, not_integers,
    not_lists, not_numbers, unchanged,
)
from soughtrows.errors import (
    InvalidLetters, InvalidLine, InvalidMore, InvalidNumber, InvalidPlace, InvalidPuts, InvalidRest, InvalidTerms,
    UnlikeLetters,
)
from soughtrows.lines import Line, instance, plus, put, times
from soughtrows.ratios import Ratio
from soughtrows.sums import argument_at, plain_rest, rest_at

SUMS = Line(2, [(1, 0, [1, 1, 0]), (-1, 0, [1, 0, 0]), (-1, 0, [0, 1, 0])], [])
WRONG_LETTERS = not_counts() + [4, 10 ** 20, Ratio(2)]


def wrong_lines():
    return not_lists() + [[], [SUMS], (SUMS,), Line, (2, [], []), "line"]


def wrong_terms():
    """What is no list of terms of two letters."""
    nought = [0, 0, 0]
    terms = [(value, 0, nought) for value in not_numbers()] + [(1, value, nought) for value in not_counts() + [3, 4]]
    arguments = not_lists() + [[0, 0], [0] * 4, [], "000", [nought], {0: 0, 1: 0, 2: 0}]
    terms += [(1, 0, value) for value in arguments + [[0, 0, value] for value in not_integers()]]
    terms += [[1, 0, nought], (1, 0), (1, 0, nought, 0), (1, nought, 0), (), 1, None, "100", nought]
    good = (1, 0, nought)
    return not_lists() + [[term] for term in terms] + [[good, terms[0]], [good] * 9, (good,) * 9, good, [[good]]]


def random_terms(draw, letters, many):
    def number():
        return draw.choice([draw.randint(-3, 3), Ratio(draw.randint(-4, 4), draw.randint(1, 3))])
    return [(number(), draw.randint(0, 2), [draw.randint(-2, 2) for _ in range(letters + 1)]) for _ in range(many)]


def random_line(draw, letters, many=4):
    rest = [(Ratio(draw.randint(-4, 4), draw.randint(1, 3)), [draw.randint(0, 3 // letters) for _ in range(letters)])
            for _ in range(draw.randint(0, 4))] if letters else [(draw.randint(-2, 2), [])]
    return Line(letters, random_terms(draw, letters, draw.randint(0, many)), rest)


def random_place(draw, letters):
    return [draw.randint(-4, 4) for _ in range(letters)]


def saying_of(letters, terms, rest, place):
    """What terms and a rest say at a place, reckoned on its own."""
    worths = {}
    for number, function, argument in terms:
        spot = function, sum(many * letter for many, letter in zip(argument, place + [1]))
        worths[spot] = worths.get(spot, Ratio(0)) + number
    values = [(*spot, worths[spot]) for spot in sorted(worths) if worths[spot] != Ratio(0)]
    return values, rest_at(letters, rest, place)


class Terms(unittest.TestCase):
    def test_joined_and_sorted(self):
        line = Line(2, [(1, 1, [0, 0, 0]), (2, 0, [1, 0, 5]), (1, 0, [-1, 7, 7]), (Ratio(1, 2), 0, [1, 0, 5]),
                        (3, 0, [1, 0, 4]), (4, 2, [0, 1, 0]), (-4, 2, [0, 1, 0]), (0, 0, [9, 9, 9])], [])
        self.assertEqual(line.terms(), [(Ratio(1), 0, [-1, 7, 7]), (Ratio(3), 0, [1, 0, 4]),
                                        (Ratio(5, 2), 0, [1, 0, 5]), (Ratio(1), 1, [0, 0, 0])])
        self.assertEqual(as_words(line.terms()[:1]), "[(Ratio(1, 1), 0, [-1, 7, 7])]")

    def test_rest_is_plain(self):
        rest = [(1, [1, 0]), (2, [0, 0]), (-1, [1, 0]), (Ratio(1, 2), [0, 0]), (3, [0, 2])]
        line = Line(2, [], rest)
        self.assertEqual(line.rest(), plain_rest(2, rest))
        self.assertEqual(as_words(line.rest()), "[(Ratio(5, 2), [0, 0]), (Ratio(3, 1), [0, 2])]")

    def test_letters(self):
        for letters in range(4):
            line = Line(letters, [(1, 2, [0] * (letters + 1))], [(1, [0] * letters)])
            self.assertEqual(line.letters, letters)
            self.assertIs(type(line.letters), int)
            with self.assertRaises(AttributeError):
                line.letters = 1

    def test_eight_and_nine_terms(self):
        for shape in [list, tuple]:
            self.assertEqual(len(Line(1, shape((1, 0, [k, 0]) for k in range(8)), []).terms()), 8)
            self.assertEqual(Line(1, shape([(1, 0, [0, 0])] * 8), []).terms(), [(Ratio(8), 0, [0, 0])])
            for wrong in [shape((1, 0, [k, 0]) for k in range(9)), shape([(1, 0, [0, 0])] * 9),
                          shape([(0, 0, [0, 0])] * 9)]:
                check_value(self, InvalidTerms, wrong, Line, 1, wrong, [])

    def test_function_two_and_three(self):
        self.assertEqual(Line(0, [(1, 2, [0])], []).terms(), [(Ratio(1), 2, [0])])
        check_value(self, InvalidTerms, [(1, 3, [0])], Line, 0, [(1, 3, [0])], [])
        check_value(self, InvalidTerms, [(0, 3, [0])], Line, 0, [(0, 3, [0])], [])

    def test_refused(self):
        good = [("letters", 2), ("terms", [(1, 0, [1, 1, 0])]), ("rest", [(1, [1, 0])])]
        wrong_rests = not_lists() + [[(1, [0])], [(1, [2, 2])], [(True, [0, 0])], [[1, [0, 0]]], [(1, [0, 0])] * 21,
                                     [(1, [0, True])], [(1, [0, -1])], (1, [0, 0])]
        wrong = {"letters": (InvalidLetters, WRONG_LETTERS), "terms": (InvalidTerms, wrong_terms()),
                 "rest": (InvalidRest, wrong_rests)}
        check_parameters(self, Line, good, wrong)

    def test_copies(self):
        argument, powers = [1, 2], [1]
        terms, rest = [(1, 0, argument)], [(1, powers)]
        line = Line(1, terms, rest)
        argument[0], powers[0] = 9, 2
        terms.append((1, 1, [0, 0]))
        rest.clear()
        self.assertEqual(line, Line(1, [(1, 0, [1, 2])], [(1, [1])]))
        line.terms()[0][2][0] = 9
        line.rest()[0][1][0] = 2
        line.terms().clear()
        line.rest().clear()
        self.assertEqual(line, Line(1, [(1, 0, [1, 2])], [(1, [1])]))
        check_new(self, terms, rest, line.terms(), line.terms(), line.rest(), line.rest())

    def test_methods_are_its_own(self):
        for name in ["__init__", "letters", "terms", "rest", "__eq__"]:
            self.assertIn(name, vars(Line))


class Equal(unittest.TestCase):
    def test_in_whatever_sequence(self):
        terms = [(1, 0, [1, 1, 0]), (-1, 0, [1, 0, 0]), (-1, 0, [0, 1, 0])]
        for told in itertools.permutations(terms):
            self.assertIs(Line(2, list(told), []) == SUMS, True)
            self.assertIs(Line(2, told, ()) != SUMS, False)
        halves = [(Ratio(1, 2), 0, [1, 1, 0])] * 2
        self.assertEqual(Line(2, terms[1:] + halves + [(0, 2, [0, 0, 0])], [(0, [1, 1])]), SUMS)
        rest = [(1, [0]), (2, [1]), (3, [2])]
        for told in itertools.permutations(rest):
            self.assertIs(Line(1, [], list(told)) == Line(1, [], rest), True)

    def test_unlike(self):
        line = Line(1, [(1, 0, [1, 2]), (2, 1, [1, 2])], [(3, [1])])
        for other in [Line(1, [(2, 0, [1, 2]), (2, 1, [1, 2])], [(3, [1])]),
                      Line(1, [(1, 0, [1, 3]), (2, 1, [1, 2])], [(3, [1])]),
                      Line(1, [(1, 0, [1, 2]), (2, 2, [1, 2])], [(3, [1])]),
                      Line(1, [(1, 0, [1, 2])], [(3, [1])]),
                      Line(1, [(1, 0, [1, 2]), (2, 1, [1, 2])], [(4, [1])]),
                      Line(1, [(1, 0, [1, 2]), (2, 1, [1, 2])], [(3, [2])]),
                      Line(1, [(1, 0, [1, 2]), (2, 1, [1, 2])], []), times(line, 2)]:
            self.assertIs(line == other, False)
            self.assertIs(line != other, True)
        self.assertIs(Line(1, [], []) == Line(2, [], []), False)
        self.assertIs(Line(0, [], []) == Line(0, [], []), True)

    def test_other_kinds(self):
        for value in wrong_lines():
            self.assertIs(SUMS == value, False)
            self.assertIs(value == SUMS, False)
            self.assertIs(SUMS != value, True)


class Instances(unittest.TestCase):
    def test_small(self):
        self.assertEqual(instance(SUMS, [2, 2]), ([(0, 2, Ratio(-2)), (0, 4, Ratio(1))], Ratio(0)))
        self.assertEqual(instance(SUMS, (0, 0)), ([(0, 0, Ratio(-1))], Ratio(0)))
        self.assertEqual(instance(SUMS, [0, 5]), ([(0, 0, Ratio(-1))], Ratio(0)))
        self.assertEqual(instance(SUMS, [-1, 5])[0], [(0, -1, Ratio(-1)), (0, 4, Ratio(1)), (0, 5, Ratio(-1))])
        self.assertEqual(instance(Line(0, [(2, 1, [5])], [(-2, [])]), []), ([(1, 5, Ratio(2))], Ratio(-2)))
        self.assertEqual(instance(Line(1, [], [(1, [2]), (1, [0])]), [3]), ([], Ratio(10)))

    def test_unlike_arguments_meet(self):
        line = Line(1, [(1, 0, [1, 0]), (1, 0, [-1, 0]), (1, 1, [1, 0]), (-1, 1, [2, 0])], [])
        self.assertEqual(instance(line, [0]), ([(0, 0, Ratio(2))], Ratio(0)))
        self.assertEqual(instance(line, [1])[0],
                         [(0, -1, Ratio(1)), (0, 1, Ratio(1)), (1, 1, Ratio(1)), (1, 2, Ratio(-1))])

    def test_kinds(self):
        found = instance(Line(1, [(2, 1, [1, 0])], [(1, [1])]), [3])
        self.assertEqual(as_words(found), "([(1, 3, Ratio(2, 1))], Ratio(3, 1))")
        check_new(self, found, instance(SUMS, [1, 2]), instance(SUMS, [1, 2]))

    def test_random(self):
        draw = random.Random(7)
        for _ in range(100):
            letters = draw.randint(0, 3)
            line, place = random_line(draw, letters, 8), random_place(draw, letters)
            found = unchanged(self, instance, line, place)
            self.assertEqual(found, saying_of(letters, line.terms(), line.rest(), place))
            self.assertEqual(instance(line, tuple(place)), found)

    def test_terms_as_told(self):
        draw = random.Random(8)
        for _ in range(60):
            letters = draw.randint(0, 3)
            terms, place = random_terms(draw, letters, 8), random_place(draw, letters)
            self.assertEqual(instance(Line(letters, terms, []), place), saying_of(letters, terms, [], place))
            self.assertEqual(Line(letters, as_tuples(terms), ()), Line(letters, terms, []))

    def test_refused(self):
        wrong_places = not_lists() + [[], [1], [1, 2, 3], "12", [[1, 2]]] + [[1, value] for value in not_integers()]
        check_parameters(self, instance, [("line", SUMS), ("place", [1, 2])],
                         {"line": (InvalidLine, wrong_lines()), "place": (InvalidPlace, wrong_places)})


class Puts(unittest.TestCase):
    def test_small(self):
        self.assertEqual(put(SUMS, 1, [[1, 0], [1, 0]]), Line(1, [(1, 0, [2, 0]), (-2, 0, [1, 0])], []))
        self.assertEqual(put(SUMS, 0, [[2], [3]]), Line(0, [(1, 0, [5]), (-1, 0, [2]), (-1, 0, [3])], []))
        self.assertEqual(put(SUMS, 3, [[1, 2, 3, 4], [0, 0, 0, 0]]), Line(3, [(-1, 0, [0, 0, 0, 0])], []))
        self.assertEqual(put(Line(1, [], [(1, [2])]), 1, [[1, 1]]), Line(1, [], [(1, [0]), (2, [1]), (1, [2])]))
        self.assertEqual(put(Line(0, [(1, 1, [5])], [(2, [])]), 2, []), Line(2, [(1, 1, [0, 0, 5])], [(2, [0, 0])]))
        self.assertEqual(put(line=SUMS, more=2, puts=([0, 1, 0], [1, 0, 0])), SUMS)

    def test_instances(self):
        draw = random.Random(24)
        for letters, more in itertools.product(range(4), repeat=2):
            for _ in range(4):
                line, place = random_line(draw, letters), random_place(draw, more)
                puts = [[draw.randint(-2, 2) for _ in range(more + 1)] for _ in range(letters)]
                found = unchanged(self, put, line, more, puts)
                self.assertEqual(found.letters, more)
                own = [argument_at(more, told, place) for told in puts]
                self.assertEqual(instance(found, place), instance(line, own))
                self.assertEqual(put(line, more, as_tuples(puts)), found)

    def test_refused(self):
        wrong_puts = not_lists() + [[], [[1, 0]], [[1, 0]] * 3, [[1], [1]], [[1, 0, 0], [1, 0, 0]], "12", [[1, 0], 1],
                                    [[True, 0], [1, 0]], [[1, 0], [1, Ratio(1)]]]
        check_parameters(self, put, [("line", SUMS), ("more", 1), ("puts", [[1, 0], [1, 0]])],
                         {"line": (InvalidLine, wrong_lines()), "more": (InvalidMore, WRONG_LETTERS),
                          "puts": (InvalidPuts, wrong_puts)})


class Added(unittest.TestCase):
    def test_small(self):
        self.assertEqual(plus(SUMS, times(SUMS, -1)), Line(2, [], []))
        one, two = Line(1, [(1, 0, [1, 0])], [(1, [1])]), Line(1, [(2, 0, [1, 0]), (1, 1, [0, 0])], [(1, [0])])
        self.assertEqual(plus(one, two), Line(1, [(3, 0, [1, 0]), (1, 1, [0, 0])], [(1, [1]), (1, [0])]))
        self.assertEqual(plus(line=one, other=two), plus(two, one))

    def test_instances(self):
        draw = random.Random(25)
        for _ in range(60):
            letters = draw.randint(0, 3)
            one, two, place = random_line(draw, letters), random_line(draw, letters), random_place(draw, letters)
            found, many = unchanged(self, plus, one, two), draw.choice([0, -2, Ratio(2, 3)])
            both = saying_of(letters, one.terms() + two.terms(), plain_rest(letters, one.rest() + two.rest()), place)
            self.assertEqual(instance(found, place), both)
            timed = unchanged(self, times, one, many)
            terms = [(number * many, function, argument) for number, function, argument in one.terms()]
            rest = [(number * many, powers) for number, powers in one.rest()]
            self.assertEqual(timed, Line(letters, terms, rest))
            self.assertEqual(instance(timed, place), saying_of(letters, terms, rest, place))

    def test_times(self):
        line = Line(1, [(2, 0, [3, 4])], [(5, [1])])
        for nought in [0, Ratio(0)]:
            self.assertEqual(times(line, nought), Line(1, [], []))
            self.assertEqual(times(SUMS, nought).letters, 2)
        self.assertEqual(times(line, Ratio(1, 2)), Line(1, [(1, 0, [3, 4])], [(Ratio(5, 2), [1])]))
        self.assertEqual(times(line=line, number=-1), Line(1, [(-2, 0, [3, 4])], [(-5, [1])]))
        self.assertIs(times(SUMS, Ratio(1, 2)) == SUMS, False)

    def test_unlike_letters(self):
        for one, two in itertools.permutations(range(4), 2):
            check_bare(self, UnlikeLetters, plus, Line(one, [], []), Line(two, [], []))
        nine = [Line(1, [(1, 0, [k, 0]) for k in range(8)], []), Line(2, [(1, 1, [0, 0, 0])], [])]
        check_bare(self, UnlikeLetters, plus, *nine)

    def test_too_many_terms(self):
        seven = Line(1, [(1, 0, [k, 0]) for k in range(7)], [])
        one, two = Line(1, [(1, 1, [0, 0])], []), Line(1, [(1, 1, [0, 0]), (1, 2, [0, 0])], [])
        self.assertEqual(len(plus(seven, one).terms()), 8)
        check_too_many(self, "terms", 8, plus, seven, two)
        check_too_many(self, "terms", 8, plus, two, seven)
        eight, negative = plus(seven, one), times(plus(seven, one), -1)
        self.assertEqual(plus(eight, eight), times(eight, 2))
        self.assertEqual(plus(eight, negative).terms(), [])
        meeting = Line(1, [(-1, 0, [0, 0]), (-1, 0, [1, 0]), (1, 2, [0, 0]), (1, 2, [0, 1])], [])
        self.assertEqual(len(plus(eight, meeting).terms()), 8)

    def test_rests_of_many_pieces(self):
        powers = [list(told) for told in itertools.product(range(4), repeat=3) if sum(told) <= 3]
        whole = Line(3, [], [(1, told) for told in powers])
        self.assertEqual(plus(whole, whole), times(whole, 2))
        self.assertEqual(plus(whole, times(whole, -1)).rest(), [])

    def test_refused(self):
        lines = {"line": (InvalidLine, wrong_lines()), "other": (InvalidLine, wrong_lines()),
                 "number": (InvalidNumber, not_numbers())}
        check_parameters(self, plus, [("line", SUMS), ("other", SUMS)], lines)
        check_parameters(self, times, [("line", SUMS), ("number", 2)], lines)
        check_value(self, InvalidLine, None, plus, Line(1, [], []), None)
        for value in not_numbers():
            check_value(self, InvalidNumber, value, times, Line(1, [], []), value)


if __name__ == "__main__":
    unittest.main()
