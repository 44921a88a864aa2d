"""[12], [13]: rows, their steps and kernels, solutions, bars and mixes."""

import random
import unittest
from fractions import Fraction

from helpers import (
    as_tuples, as_words, check_new, check_parameters, check_value, lists_in, not_counts, not_lists, not_numbers,
    unchanged,
)
from soughtrows.errors import InvalidGoal, InvalidGoals, InvalidMany, InvalidRows
from soughtrows.ratios import Ratio
from soughtrows.solved import bar, is_bar, is_mix, is_solution, kernel, mix, solution, steps


def worth(number):
    return Fraction(number) if isinstance(number, int) else Fraction(number.top, number.bottom)


def worths(rows):
    return [[worth(number) for number in row] for row in rows]


def steps_by_fractions(rows):
    """The steps by schoolbook elimination, to compare with."""
    left, found = worths(rows), []
    for place in range(len(rows[0]) if rows else 0):
        heads = [row for row in left if row[place] != 0]
        if heads:
            head = [number / heads[0][place] for number in heads[0]]
            left = [row for row in left if row is not heads[0]]
            left = [[one - row[place] * two for one, two in zip(row, head)] for row in left]
            found = [[one - row[place] * two for one, two in zip(row, head)] for row in found] + [head]
    return found


def ratios(rows):
    return [[Ratio(number.numerator, number.denominator) for number in row] for row in worths(rows)]


def product(row, numbers):
    return sum([worth(one) * worth(two) for one, two in zip(row, numbers)], Fraction(0))


def random_rows(draw, many, wide, kind):
    """Rows of which some are often made of the others."""
    numbers = {
        "whole": lambda: draw.randint(-4, 4),
        "few": lambda: draw.choice([0, 0, 0, 1, -1, 2]),
        "ratios": lambda: Ratio(draw.randint(-5, 5), draw.randint(1, 6)),
        "long": lambda: Ratio(draw.randint(-999999, 999999), draw.randint(1, 99)),
    }[kind]
    rows = [[numbers() for _ in range(wide)] for _ in range(many)]
    for at in range(1, many):
        if draw.random() < 0.3:
            one, two = draw.choice(rows[:at]), draw.choice(rows[:at])
            rows[at] = [2 * left - right for left, right in zip(one, two)]
    return rows


def all_random_rows():
    draw = random.Random(12)
    for kind in ["whole", "few", "ratios", "long"]:
        for _ in range(40):
            yield draw, random_rows(draw, draw.randint(1, 6), draw.randint(1, 6), kind)


def are_ratios(numbers):
    return isinstance(numbers, list) and all(type(number) is Ratio for number in numbers)


class Steps(unittest.TestCase):
    def test_small(self):
        self.assertEqual(steps([[0, 2, 4], [0, 3, 6]]), ratios([[0, 1, 2]]))
        self.assertEqual(steps([[2, 4], [1, 3]]), ratios([[1, 0], [0, 1]]))
        self.assertEqual(steps([[0, 0, 3], [0, -2, 1], [5, 0, 0]]), ratios([[1, 0, 0], [0, 1, 0], [0, 0, 1]]))
        self.assertEqual(steps([[-3, 1, 2]]), [[Ratio(1), Ratio(-1, 3), Ratio(-2, 3)]])
        self.assertEqual(steps([[1, 2, 3], [2, 4, 7]]), ratios([[1, 2, 0], [0, 0, 1]]))
        self.assertEqual(steps([[Ratio(1, 2), Ratio(1, 3)]]), [[Ratio(1), Ratio(2, 3)]])

    def test_noughts_and_none(self):
        self.assertEqual(steps([]), [])
        self.assertEqual(steps(()), [])
        self.assertEqual(steps([[0]]), [])
        self.assertEqual(steps([[0, 0], [Ratio(0), 0], [0, 0]]), [])
        self.assertEqual(steps([[0, 0], [0, 4]]), ratios([[0, 1]]))

    def test_like_fractions(self):
        for _, rows in all_random_rows():
            found = unchanged(self, steps, rows)
            self.assertEqual(worths(found), steps_by_fractions(rows))
            self.assertTrue(all(are_ratios(row) for row in found))
            self.assertEqual(steps(as_tuples(rows)), found)
            self.assertEqual(steps(ratios(rows)), found)
            self.assertEqual(steps(found), found)
            check_new(self, found, steps(found))

    def test_refused(self):
        good = [("rows", [[1, 2], [3, 4]])]
        check_parameters(self, steps, good, {"rows": (InvalidRows, wrong_rows())})


def wrong_rows():
    """What is no rows, of whatever width."""
    lists = [[[]], [[], []], [1], [[1], 2], [[1], [1, 2]], [[1, 2], [1]], ((1,), "1"), [[1, 2], "ab"],
             [[0] * 61], [[1]] * 61, [{}], [[1], None], [[[1]]]]
    return not_lists() + lists + [[[value]] for value in not_numbers()] + [[[1, 2], [3, True]], [[False]]]


class Kernel(unittest.TestCase):
    def test_small(self):
        self.assertEqual(kernel([[1, 2]], 2), [[Ratio(1), Ratio(-1, 2)]])
        self.assertEqual(kernel([], 2), ratios([[1, 0], [0, 1]]))
        self.assertEqual(kernel([[0, 0]], 2), ratios([[1, 0], [0, 1]]))
        self.assertEqual(kernel([[5]], 1), [])
        self.assertEqual(kernel([[0, 1, 0]], 3), ratios([[1, 0, 0], [0, 0, 1]]))
        self.assertEqual(kernel([[1, 1, 1]], 3), ratios([[1, 0, -1], [0, 1, -1]]))
        self.assertEqual(kernel(rows=[[1, 0]], wide=2), ratios([[0, 1]]))

    def test_facts(self):
        for _, rows in all_random_rows():
            wide = len(rows[0])
            found = unchanged(self, kernel, rows, wide)
            self.assertTrue(all(are_ratios(row) for row in found))
            self.assertEqual(steps(found), found)
            self.assertEqual(len(found) + len(steps(rows)), wide)
            for made in found:
                self.assertEqual([product(row, made) for row in rows], [0] * len(rows))
            self.assertEqual(kernel(found, wide), steps(rows))
            self.assertEqual(kernel(as_tuples(rows), wide), found)
            check_new(self, found, kernel(rows, wide))

    def test_widths(self):
        self.assertEqual(kernel([], 60), ratios([[int(k == at) for k in range(60)] for at in range(60)]))
        self.assertEqual(kernel([[0] * 60] * 60, 60), kernel([], 60))
        self.assertEqual(len(kernel([[1] * 60] * 60, 60)), 59)
        self.assertEqual(kernel([], 1), [[Ratio(1)]])

    def test_refused(self):
        good = [("rows", [[1, 2], [3, 4]]), ("wide", 2)]
        wrong_widths = not_counts() + [0, 61, 10 ** 20, Ratio(2)]
        check_parameters(self, kernel, good, {"rows": (InvalidRows, wrong_rows()), "wide": (InvalidMany, wrong_widths)})
        for wide in wrong_widths:
            check_value(self, InvalidMany, wide, kernel, [], wide)

    def test_rows_of_another_width(self):
        for rows in [[[1]], [[1, 2, 3]], [[0] * 60], ((1,), (2,))]:
            check_value(self, InvalidRows, rows, kernel, rows, 2)
            check_value(self, InvalidMany, 61, kernel, rows, 61)


class Solutions(unittest.TestCase):
    def test_small(self):
        self.assertEqual(solution([[1, 1], [1, -1]], [3, 1]), [Ratio(2), Ratio(1)])
        self.assertEqual(bar([[1, 1], [1, -1]], [3, 1]), None)
        self.assertEqual(solution([[1, 1], [2, 2]], [1, 3]), None)
        self.assertEqual(solution([[0]], [0]), [Ratio(0)])
        self.assertEqual(solution([[0]], [Ratio(1, 2)]), None)
        self.assertTrue(is_bar([[0]], [Ratio(1, 2)], bar([[0]], [Ratio(1, 2)])))
        self.assertEqual(solution(rows=[[2]], goals=[1]), [Ratio(1, 2)])
        self.assertEqual(bar(rows=[[2]], goals=[1]), None)

    def test_just_one_of_both(self):
        seen = {True: 0, False: 0}
        for draw, rows in all_random_rows():
            if draw.random() < 0.4:
                told = [draw.randint(-3, 3) for _ in rows[0]]
                goals = [Ratio.total([one * two for one, two in zip(row, told)]) for row in rows]
            else:
                goals = [draw.choice([0, 0, 1, -2, Ratio(1, 3)]) for _ in rows]
            found, barred = unchanged(self, solution, rows, goals), unchanged(self, bar, rows, goals)
            seen[found is None] += 1
            self.assertNotEqual(found is None, barred is None)
            if found is not None:
                self.check_solution(rows, goals, found)
            else:
                self.check_bar(rows, goals, barred)
            self.assertEqual(solution(as_tuples(ratios(rows)), tuple(goals)), found)
            self.assertEqual(bar(as_tuples(ratios(rows)), tuple(goals)), barred)
        self.assertTrue(min(seen.values()) > 20)

    def check_solution(self, rows, goals, found):
        self.assertTrue(are_ratios(found))
        self.assertEqual(len(found), len(rows[0]))
        self.assertEqual([product(row, found) for row in rows], [worth(goal) for goal in goals])
        self.assertIs(unchanged(self, is_solution, rows, goals, found), True)
        self.assertIs(is_solution(rows, goals, tuple(found)), True)
        for free in kernel(rows, len(rows[0])):
            other = [one + two for one, two in zip(found, free)]
            self.assertIs(is_solution(rows, goals, other), True)
        for at in range(len(found)):
            other = [one + int(k == at) for k, one in enumerate(found)]
            right = all(product(row, other) == worth(goal) for row, goal in zip(rows, goals))
            self.assertIs(is_solution(rows, goals, other), right)

    def check_bar(self, rows, goals, found):
        self.assertTrue(are_ratios(found))
        self.assertEqual(len(found), len(rows))
        for place in range(len(rows[0])):
            self.assertEqual(product([row[place] for row in rows], found), 0)
        self.assertNotEqual(product(goals, found), 0)
        self.assertIs(unchanged(self, is_bar, rows, goals, found), True)
        self.assertIs(is_bar(rows, goals, tuple(-2 * number for number in found)), True)
        self.assertIs(is_bar(rows, goals, [0 * number for number in found]), False)

    def test_new_lists(self):
        rows, goals = [[1, 1], [1, -1]], [3, 1]
        check_new(self, rows, goals, solution(rows, goals), solution(rows, goals))
        rows, goals = [[0, 0]], [3]
        check_new(self, rows, goals, bar(rows, goals), bar(rows, goals))


class Judges(unittest.TestCase):
    def test_solutions(self):
        self.assertIs(is_solution([[1, 1]], [2], [5, -3]), True)
        self.assertIs(is_solution([[1, 1]], [2], (5, Ratio(-3))), True)
        self.assertIs(is_solution([[1, 1]], [2], [5, -2]), False)
        self.assertIs(is_solution([[1, 1], [0, 1]], [2, 1], [1, 1]), True)
        self.assertIs(is_solution([[1, 1], [0, 1]], [2, 1], [2, 0]), False)
        self.assertIs(is_solution([[1, 1], [0, 1]], [2, 1], [0, 1]), False)
        for value in [[2], [2, 0, 0], [], [True, True], [2, False], [2, None], [2, "0"], "20", {2: 0, 0: 2}]:
            self.assertIs(is_solution([[1, 1]], [2], value), False)
        self.assertIs(is_solution([[1]], [1], [True]), False)

    def test_bars(self):
        rows, goals = [[1, 1], [2, 2]], [1, 3]
        self.assertIs(is_bar(rows, goals, [2, -1]), True)
        self.assertIs(is_bar(rows, goals, (Ratio(-1, 2), Ratio(1, 4))), True)
        self.assertIs(is_bar(rows, goals, [0, 0]), False)
        self.assertIs(is_bar(rows, goals, [1, -1]), False)
        self.assertIs(is_bar(rows, [1, 2], [2, -1]), False)
        self.assertIs(is_bar([[0, 1]], [1], [1]), False)
        self.assertIs(is_bar([[1, 0]], [1], [1]), False)
        for value in [[2], [2, -1, 0], [], "ab", [2, None], [2, True], (2, "-1"), {2: 0, -1: 0}]:
            self.assertIs(is_bar(rows, goals, value), False)
        self.assertIs(is_bar([[0]], [1], [True]), False)
        self.assertIs(is_bar([[0], [0]], [1, 1], [1, False]), False)

    def test_mixes(self):
        self.assertIs(is_mix([[1], [2]], [4], [0, 2]), True)
        self.assertIs(is_mix([[1], [2]], [4], (Ratio(4), 0)), True)
        self.assertIs(is_mix([[1], [2]], [4], [1, 2]), False)
        self.assertIs(is_mix([[1, 2]], [2, 4], [2]), True)
        self.assertIs(is_mix([[1, 2]], [2, 5], [2]), False)
        self.assertIs(is_mix([[1, 2]], [3, 4], [2]), False)
        self.assertIs(is_mix([], [0, 0], []), True)
        self.assertIs(is_mix([], [0, Ratio(0)], ()), True)
        self.assertIs(is_mix([], [0, 1], []), False)
        self.assertIs(is_mix([], [0], [0]), False)
        for value in [[4], [4, 0, 0], [], [4, False], [4, None], "40", {4: 0, 0: 4}, None]:
            self.assertIs(is_mix([[1], [2]], [4], value), False)
        self.assertIs(is_mix([[1]], [1], [True]), False)

    def test_any_value(self):
        for value in not_lists() + [[[1]], [[]], ((),), [None]]:
            self.assertIs(is_solution([[1]], [1], value), False)
            self.assertIs(is_bar([[0]], [1], value), False)
            self.assertIs(is_mix([[1]], [1], value), False)
            self.assertIs(is_mix([], [0], value), False)


class Mixes(unittest.TestCase):
    def test_small(self):
        self.assertEqual(mix([[1, 1], [0, 2]], [3, 1]), [Ratio(3), Ratio(-1)])
        self.assertEqual(mix([[1, 1]], [1, 0]), None)
        self.assertEqual(mix([], [0, 0]), [])
        self.assertEqual(mix((), (0,)), [])
        self.assertEqual(mix([], [0, 1]), None)
        self.assertEqual(mix([], [Ratio(1, 2)]), None)
        self.assertEqual(mix(rows=[[2]], goal=[1]), [Ratio(1, 2)])

    def test_facts(self):
        seen = {True: 0, False: 0}
        for draw, rows in all_random_rows():
            goal = [draw.choice([0, 1, -3, Ratio(1, 2)]) for _ in rows[0]]
            if draw.random() < 0.5:
                many = [draw.randint(-3, 3) for _ in rows]
                goal = [Ratio.total([number * row[place] for number, row in zip(many, rows)])
                        for place in range(len(rows[0]))]
                self.assertIs(is_mix(rows, goal, many), True)
            found = unchanged(self, mix, rows, goal)
            seen[found is None] += 1
            self.assertEqual(found is None, len(steps(rows + [goal])) > len(steps(rows)))
            self.assertEqual(mix(as_tuples(ratios(rows)), tuple(goal)), found)
            if found is not None:
                self.assertTrue(are_ratios(found))
                self.assertEqual([product([row[place] for row in rows], found) for place in range(len(goal))],
                                 [worth(number) for number in goal])
                self.assertIs(unchanged(self, is_mix, rows, goal, found), True)
        self.assertTrue(min(seen.values()) > 20)

    def test_new_lists(self):
        rows, goal = [[1, 1], [0, 2]], [3, 1]
        check_new(self, rows, goal, mix(rows, goal), mix(rows, goal))
        check_new(self, mix([], [0]), mix([], [0]))


class Refused(unittest.TestCase):
    def test_goals(self):
        wrong = not_lists() + [[], [1], [1, 2, 3], (1,), [[1, 2]], "12"] + [[1, value] for value in not_numbers()]
        tables = {"rows": (InvalidRows, wrong_rows() + [[], ()]), "goals": (InvalidGoals, wrong)}
        good = [("rows", [[1, 2], [3, 4]]), ("goals", [1, 2])]
        for function in [solution, bar]:
            check_parameters(self, function, good, tables)
        for function in [is_solution, is_bar]:
            check_parameters(self, function, good + [("value", None)], tables)

    def test_goal(self):
        wrong = not_lists() + [[], [1], [1, 2, 3], (1,), [[1, 2]], "12"] + [[1, value] for value in not_numbers()]
        tables = {"rows": (InvalidRows, wrong_rows()), "goal": (InvalidGoal, wrong)}
        good = [("rows", [[1, 2], [3, 4]]), ("goal", [1, 2])]
        check_parameters(self, mix, good, tables)
        check_parameters(self, is_mix, good + [("value", None)], tables)

    def test_one_row(self):
        for goal in [[1], [1, 2, 3], (), [0] * 60]:
            check_value(self, InvalidGoal, goal, mix, [[1, 2]], goal)
            check_value(self, InvalidGoal, goal, is_mix, [[1, 2]], goal, [1])
        for goals in [[], [1, 2], ()]:
            check_value(self, InvalidGoals, goals, solution, [[1, 2]], goals)
            check_value(self, InvalidGoals, goals, is_bar, [[1, 2]], goals, [1])

    def test_goal_of_no_rows(self):
        for goal in not_lists() + [[], (), [0] * 61, [True], [None], "0"]:
            check_value(self, InvalidGoal, goal, mix, [], goal)
            check_value(self, InvalidGoal, goal, is_mix, [], goal, [])
        self.assertEqual([mix([], [0] * 60), mix([], [0])], [[], []])

    def test_unlike_lengths(self):
        for rows in [[[1, 2], [3]], [[1], [2, 3]], [[1, 2], []]]:
            for function in [solution, bar]:
                check_value(self, InvalidRows, rows, function, rows, [1, 2])
            check_value(self, InvalidRows, rows, mix, rows, [1, 2])
            check_value(self, InvalidRows, rows, steps, rows)
            check_value(self, InvalidRows, rows, kernel, rows, 2)


class Large(unittest.TestCase):
    """60 rows, 60 wide: the most that there can be."""

    def setUp(self):
        draw = random.Random(60)
        self.rows = [[draw.randint(-9, 9) for _ in range(60)] for _ in range(60)]
        self.goals = [draw.randint(-99, 99) for _ in range(60)]

    def test_free_rows(self):
        rows, goals = self.rows, self.goals
        self.assertEqual(steps(rows), ratios([[int(k == at) for k in range(60)] for at in range(60)]))
        self.assertEqual(kernel(rows, 60), [])
        found = solution(rows, goals)
        self.assertEqual([product(row, found) for row in rows], goals)
        self.assertIs(is_solution(rows, goals, found), True)
        self.assertEqual(bar(rows, goals), None)
        self.assertIs(is_mix(rows, goals, mix(rows, goals)), True)

    def test_rows_that_are_made(self):
        rows = self.rows[:30]
        rows = rows + [[one + two for one, two in zip(row, rows[0])] for row in rows]
        self.assertEqual(worths(steps(rows)), worths(steps(self.rows[:30])))
        self.assertEqual(len(kernel(rows, 60)), 30)
        self.assertEqual(solution(rows, self.goals), None)
        self.assertIs(is_bar(rows, self.goals, bar(rows, self.goals)), True)
        self.assertEqual(mix(rows, self.goals), None)

    def test_one_and_sixty(self):
        self.assertEqual(steps([[k] for k in range(60)]), [[Ratio(1)]])
        self.assertEqual(steps([list(range(60))]), ratios([list(range(60))]))
        self.assertEqual(len(solution([[1] * 60], [60])), 60)
        self.assertEqual(len(mix([[1]] * 60, [7])), 60)

    def test_sixty_one(self):
        for rows in [[[1]] * 61, [[1] * 61], ([1],) * 61]:
            check_value(self, InvalidRows, rows, steps, rows)
            check_value(self, InvalidRows, rows, kernel, rows, 1)
            check_value(self, InvalidRows, rows, solution, rows, [1])
            check_value(self, InvalidRows, rows, mix, rows, [1])


class Kinds(unittest.TestCase):
    def test_ratios_in_lists(self):
        found = [steps([[2, 4]]), kernel([[2, 4]], 2), solution([[2, 4]], [2]), bar([[0]], [2]), mix([[2]], [2])]
        self.assertEqual(as_words(found[:2]), "[[[Ratio(1, 1), Ratio(2, 1)]], [[Ratio(1, 1), Ratio(-1, 2)]]]")
        for value in found:
            self.assertEqual(type(value), list)
            self.assertTrue(all(are_ratios(part) for part in lists_in(value) if not lists_in(part)[1:]))


if __name__ == "__main__":
    unittest.main()
