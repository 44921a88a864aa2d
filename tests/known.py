"""Lines, books and courses that several test files use, and what is none of these."""

import math

from helpers import not_counts, not_integers, not_lists
from soughtrows.books import Book
from soughtrows.courses import Course
from soughtrows.lines import Line
from soughtrows.ratios import Ratio

SUMS = Line(2, [(1, 0, [1, 1, 0]), (-1, 0, [1, 0, 0]), (-1, 0, [0, 1, 0])], [])
ODDS = Line(2, [(1, 0, [2, 1, 0]), (-1, 0, [2, 0, 0]), (-1, 0, [0, 1, 0])], [])
SQUARES = Line(2, [(1, 0, [1, 1, 0]), (1, 0, [1, -1, 0]), (-2, 0, [1, 0, 0]), (-2, 0, [0, 1, 0])], [])
PARTED = Line(2, [(1, 0, [1, 1, 0]), (-1, 1, [1, 0, 0]), (-1, 2, [0, 1, 0])], [])
ADDING = Book(1, [SUMS])
STAMPS = Book(1, [ODDS])
SPLIT = Book(3, [PARTED])

NOUGHT = Course([[]])
SAME = Course([[0, 1]])
ODD = Course([[], [1]])


def middles(many, function=0):
    return Line(2, [(1, function, [1, many, 0]), (1, function, [1, -many, 0]), (-2, function, [1, 0, 0])], [])


def differences(many, step, function=0):
    return Line(2, [((-1) ** (many - j) * math.comb(many, j), function, [1, j * step, 0]) for j in range(many + 1)], [])


def repeating(step, function=0):
    """f(step x + y) = f(y): kept by all whose period divides the step."""
    return Line(2, [(1, function, [step, 1, 0]), (-1, function, [0, 1, 0])], [])


def told(function, whole, number):
    """f(whole) is the number."""
    return Line(0, [(1, function, [whole])], [(-1 * number, [])])


def bracket(size, left, rest=(), function=0):
    """f(size x + left) and the rest are 0: it holds f at one remainder alone."""
    return Line(1, [(1, function, [size, left])], list(rest))


def every_place(letters, low, high):
    found = [[]]
    for _ in range(letters):
        found = [[*place, number] for place in found for number in range(low, high + 1)]
    return found


def random_place(draw, letters, most=4):
    return [draw.randint(-most, most) for _ in range(letters)]


def random_course(draw, period=4, degree=2):
    many = draw.randint(1, period)
    return Course([[draw.randint(-3, 3) for _ in range(draw.randint(0, degree + 1))] for _ in range(many)])


def random_line(draw, functions, most=3):
    """A line of few terms, with numbers that are small."""
    letters = draw.choice([0, 1, 2, 2, 2])
    terms = [(draw.choice([1, -1, 2, Ratio(1, 2)]), draw.randrange(functions),
              [draw.choice([0, 1, 1, -1, 2]) for _ in range(letters)] + [draw.choice([0, 0, 1, -2])])
             for _ in range(draw.randint(1, most))]
    rest = [(draw.choice([1, -1, Ratio(1, 3)]), [draw.randint(0, 1) for _ in range(letters)])]
    return Line(letters, terms, rest if draw.random() < 0.3 else [])


def summed_fillings(first, basis, numbers):
    """The worths, as a function of function and whole number, of a filling plus multiples of some others."""
    def worth(function, whole):
        found = first[function].at(whole)
        for number, filling in zip(numbers, basis):
            found = found + filling[function].at(whole) * number
        return found
    return worth


def line_worth(line, worth, place):
    """What the line adds up to for any functions, told by their worths, reckoned on its own."""
    found = Ratio(0)
    for number, function, argument in line.terms():
        found = found + worth(function, sum(a * x for a, x in zip(argument, [*place, 1]))) * number
    for number, powers in line.rest():
        found = found + number * math.prod(x ** power for x, power in zip(place, powers))
    return found


def is_kept_near(lines, worth, most=4):
    """Whether the functions keep the lines at all places near 0."""
    return all(line_worth(line, worth, place).sign == 0
               for line in lines for place in every_place(line.letters, -most, most))


def wrong_lines():
    return not_lists() + [[], [SUMS], (SUMS,), Line, ADDING, (2, [], []), "line"]


def wrong_books():
    return not_lists() + [[], [ADDING], (ADDING,), Book, SUMS, (1, [SUMS]), "book"]


def wrong_courses():
    return not_lists() + [[], [SAME], (SAME,), [[0, 1]], Course, SUMS, ADDING, "course"]


def wrong_fillings(many):
    """What is no filling of a book of so many functions."""
    wrong = not_lists() + [[], (), [SAME] * (many + 1), [NOUGHT] * 4, SAME, [[0, 1]] * many, {0: SAME}]
    return wrong + [[SAME] * (many - 1) + [value] for value in wrong_courses()]


def wrong_functions(many):
    return not_counts() + [many, many + 1, 10 ** 20, Ratio(0)]


def wrong_places(letters):
    wrong = not_lists() + [[0] * (letters + 1), [[0] * letters], {k: 0 for k in range(letters)}]
    if letters > 0:
        wrong += [[0] * (letters - 1), "0" * letters] + [[0] * (letters - 1) + [value] for value in not_integers()]
    return wrong
