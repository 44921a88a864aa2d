"""[91]: written forms, and what is read back of them."""

import random
import unittest

from helpers import as_tuples, as_words, check_parameters, check_value, not_counts, not_integers, not_lists, \
    not_numbers, other_things, unchanged
from known import ADDING, NOUGHT, ODD, SAME, SPLIT, SUMS, random_course, random_line, told
from soughtrows.books import Book
from soughtrows.courses import Course
from soughtrows.errors import InvalidSort, InvalidValue
from soughtrows.lines import Line
from soughtrows.ratios import Ratio
from soughtrows.readers import read
from soughtrows.texts import is_of_sort, sorts, written

WORDS = ["numbers", "argument", "line", "book", "course", "spots", "values", "blend"]
FORMS = [
    ("numbers", [], "numbers\n"), ("numbers", [0], "numbers 0\n"),
    ("numbers", [1, Ratio(-3, 2), -7, Ratio(4, 2), Ratio(10 ** 12, 7)], "numbers 1 -3/2 -7 2 1000000000000/7\n"),
    ("argument", [5], "argument 5\n"), ("argument", [2, 0], "argument 2 0\n"),
    ("argument", [-1, 0, 12, -10 ** 20], "argument -1 0 12 -100000000000000000000\n"),
    ("line", Line(0, [], []), "line 0\n"), ("line", Line(3, [], []), "line 3\n"),
    ("line", told(0, 5, Ratio(7, 2)), "line 0\nterm 1 0 5\nrest -7/2\n"),
    ("line", Line(1, [(Ratio(1, 2), 2, [-1, 3]), (5, 0, [4, 0])], [(1, [3]), (-1, [0])]),
     "line 1\nterm 5 0 4 0\nterm 1/2 2 -1 3\nrest -1 0\nrest 1 3\n"),
    ("line", SUMS, "line 2\nterm -1 0 0 1 0\nterm -1 0 1 0 0\nterm 1 0 1 1 0\n"),
    ("line", Line(3, [], [(2, [1, 1, 1]), (1, [0, 0, 3]), (Ratio(-1, 9), [0, 0, 0])]),
     "line 3\nrest -1/9 0 0 0\nrest 1 0 0 3\nrest 2 1 1 1\n"),
    ("book", Book(3, []), "book 3\n"), ("book", Book(1, [Line(1, [], [(2, [1])])]), "book 1\nline 1\nrest 2 1\n"),
    ("book", Book(2, [told(1, 2, 3), Line(2, [], []), told(1, 2, 3)]),
     "book 2\nline 0\nterm 1 1 2\nrest -3\nline 2\nline 0\nterm 1 1 2\nrest -3\n"),
    ("course", NOUGHT, "course 1\npart\n"), ("course", SAME, "course 1\npart 0 1\n"),
    ("course", ODD, "course 2\npart\npart 1\n"),
    ("course", Course([[0, 1], [Ratio(1, 2), 0, -4], []]), "course 3\npart 0 1\npart 1/2 0 -4\npart\n"),
    ("spots", [], "spots\n"), ("spots", [(2, -5), (0, 0), (0, 7)], "spots\nspot 2 -5\nspot 0 0\nspot 0 7\n"),
    ("values", [], "values\n"),
    ("values", [(1, 3, Ratio(-1, 3)), (0, -2, 2)], "values\nvalue 1 3 -1/3\nvalue 0 -2 2\n"),
    ("blend", [], "blend\n"),
    ("blend", [(1, 0, [2, 0]), (0, 5, []), (Ratio(1, 2), 0, [-3, 4, 5]), (1, 0, [2, 0])],
     "blend\ntimes 1 0 2 0\ntimes 0 5\ntimes 1/2 0 -3 4 5\ntimes 1 0 2 0\n"),
]


def read_as(sort, value):
    """The value with Ratios, lists and tuples as they are read."""
    def ratio(number):
        return Ratio(1) * number
    if sort == "numbers":
        return [ratio(number) for number in value]
    if sort == "values":
        return [(f, n, ratio(number)) for f, n, number in value]
    if sort == "blend":
        return [(ratio(number), at, list(place)) for number, at, place in value]
    return list(value) if sort in ("argument", "spots") else value


class Written(unittest.TestCase):
    def check(self, sort, value, text):
        self.assertIs(unchanged(self, is_of_sort, sort, value), True)
        self.assertEqual(unchanged(self, written, sort, value), text)
        found = read(text)
        self.assertIsInstance(found, tuple)
        wanted = read_as(sort, value)
        self.assertEqual(found, (sort, wanted))
        self.assertEqual(as_words(found), as_words((sort, wanted)))

    def test_sorts(self):
        self.assertEqual(sorts(), WORDS)
        self.assertIsInstance(sorts(), list)
        sorts().append("x")
        self.assertEqual(sorts(), WORDS)

    def test_known(self):
        for sort, value, text in FORMS:
            self.check(sort, value, text)
            self.assertEqual(written(sort=sort, value=value), text)
            if isinstance(value, list):
                self.check(sort, as_tuples(value), text)

    def test_one_worth_one_form(self):
        self.assertEqual(written("numbers", [Ratio(2), Ratio(-3, 1), Ratio(0)]), written("numbers", (2, -3, 0)))
        self.assertEqual(written("values", [(0, 1, Ratio(8, 4))]), written("values", ((0, 1, 2),)))
        self.assertEqual(written("blend", [(Ratio(6, 3), 0, (1, 2))]), written("blend", [(2, 0, [1, 2])]))
        self.assertEqual(written("line", Line(1, [(Ratio(2), 0, (1, 0))], [(Ratio(1), (1,))])),
                         written("line", Line(1, ((2, 0, [1, 0]),), [(1, [1])])))
        self.assertEqual(written("course", Course([[Ratio(1), 2], (1, Ratio(4, 2), 0)])),
                         written("course", Course([[1, 2]])))

    def test_what_comes_to_nothing(self):
        line = Line(1, [(1, 0, [1, 0]), (2, 1, [1, 0]), (-1, 0, [1, 0]), (0, 2, [1, 1])],
                    [(1, [1]), (0, [2]), (-1, [1])])
        self.check("line", line, "line 1\nterm 2 1 1 0\n")
        self.check("book", Book(2, [line]), "book 2\nline 1\nterm 2 1 1 0\n")

    def test_greatest(self):
        self.check("numbers", list(range(60)), "numbers " + " ".join(map(str, range(60))) + "\n")
        self.check("spots", [(k % 3, k) for k in range(40)],
                   "spots\n" + "".join(f"spot {k % 3} {k}\n" for k in range(40)))
        self.check("values", [(0, -k, k) for k in range(40)],
                   "values\n" + "".join(f"value 0 {-k} {k}\n" for k in range(40)))
        self.check("blend", [(k, k % 6, [k]) for k in range(400)],
                   "blend\n" + "".join(f"times {k} {k % 6} {k}\n" for k in range(400)))
        self.check("course", Course([[k] for k in range(60)]), "course 60\n" + "".join(
            f"part {k}\n" if k else "part\n" for k in range(60)))
        self.check("course", Course([[1] * 8]), "course 1\npart 1 1 1 1 1 1 1 1\n")
        self.check("book", Book(3, [SUMS] * 6), "book 3\n" + written("line", SUMS) * 6)
        terms = [(1, 0, [k]) for k in range(8)]
        self.check("line", Line(0, terms, []), "line 0\n" + "".join(f"term 1 0 {k}\n" for k in range(8)))

    def test_random(self):
        draw = random.Random(91)
        for _ in range(60):
            line = random_line(draw, 3, 6)
            book = Book(3, [random_line(draw, 3, 4) for _ in range(draw.randint(0, 6))])
            for sort, value in [("line", line), ("book", book), ("course", random_course(draw, 6, 4)),
                                ("numbers", [Ratio(draw.randint(-99, 99), draw.randint(1, 9)) for _ in range(6)])]:
                self.check(sort, value, written(sort, value))


class IsOfSort(unittest.TestCase):
    def wrong(self):
        """For each sort values that are none of it."""
        short = [(0, 1), (1, 2, 3), [0, 1], "ab"]
        return {
            "numbers": not_lists() + [[value] for value in not_numbers()] + [[1] * 61, (1,) * 61, SUMS],
            "argument": not_lists() + [[], (), [1] * 5] + [[1, value] for value in not_integers()],
            "line": not_lists() + [[SUMS], (SUMS,), ADDING, SAME, Line, "line 0\n"],
            "book": not_lists() + [[ADDING], (ADDING,), SUMS, SAME, Book, [SUMS]],
            "course": not_lists() + [[SAME], (SAME,), SUMS, ADDING, Course, [[0, 1]]],
            "spots": not_lists() + [[value] for value in other_things() + short[1:]] + [
                (0, 1), [(0, 1), (0, 1)], [(0, 1), (3, 1)], [(k % 3, k) for k in range(41)], [(0, 1, 2)], [(0,)]]
            + [[(value, 1)] for value in not_counts()] + [[(0, value)] for value in not_integers()],
            "values": not_lists() + [[value] for value in other_things() + [(0, 1), [0, 1, 2], (0, 1, 2, 3)]] + [
                (0, 1, 2), [(0, 1, 2), (0, 1, 3)], [(3, 1, 1)], [(0, k, 1) for k in range(41)]]
            + [[(value, 1, 1)] for value in not_counts()] + [[(0, value, 1)] for value in not_integers()]
            + [[(0, 1, value)] for value in not_numbers()],
            "blend": not_lists() + [[value] for value in other_things() + [(1, 0), [1, 0, []], (1, 0, [], 0)]] + [
                (1, 0, []), [(1, 6, [])], [(1, 0, [1] * 4)], [(1, 0, [])] * 401, [(1, 0, 1)], [(1, 0, "12")]]
            + [[(value, 0, [])] for value in not_numbers()] + [[(1, value, [])] for value in not_counts()]
            + [[(1, 0, [value])] for value in not_integers()],
        }

    def test_any_value(self):
        for sort, values in self.wrong().items():
            for value in values:
                with self.subTest(sort=sort, value=value):
                    self.assertIs(is_of_sort(sort, value), False)
                    check_value(self, InvalidValue, value, written, sort, value)

    def test_one_for_several(self):
        for sort in WORDS:
            self.assertIs(is_of_sort(sort, []), sort in ("numbers", "spots", "values", "blend"))
            self.assertIs(is_of_sort(sort, [1, 2]), sort in ("numbers", "argument"))
        self.assertIs(is_of_sort(sort="book", value=SPLIT), True)

    def test_sorts_ahead_of_values(self):
        wrong_sorts = other_things() + [0, 1, [], ["line"], ("line",), "lines", "Line", "line ", "line\n", "number"]
        for sort, value, _ in FORMS:
            wrong = {"sort": (InvalidSort, wrong_sorts), "value": (InvalidValue, self.wrong()[sort][:5])}
            check_parameters(self, written, [("sort", sort), ("value", value)], wrong)
            check_parameters(self, is_of_sort, [("sort", sort), ("value", value)], {"sort": wrong["sort"]})


if __name__ == "__main__":
    unittest.main()
