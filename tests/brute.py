"""All fillings that keep a book, by going through all places of boxes: slow, but plain.

Whatever keeps a held book has the periods and degrees that its rooms tell; the numbers of its polynomials are unknowns,
and a box as long as the periods, times the degrees and one more, tells all. It reckons modulo a great prime."""

import itertools
import math
import random
from fractions import Fraction

from known import ODDS, SQUARES, SUMS, bracket, differences, middles, random_line, repeating, told
from soughtrows.books import Book, renamed
from soughtrows.directions import alone, class_of, order, pace
from soughtrows.lines import Line, put

PRIME = 2 ** 61 - 1


def good_terms(book, function):
    """The tuples (pace, order, class) of the good terms."""
    found = []
    for line in book.lines():
        for position in alone(line):
            if line.terms()[position][1] == function and pace(line, position) <= 12 and order(line, position) <= 5:
                found.append((pace(line, position), order(line, position), class_of(line, position)))
    return found


def is_held_by(book, function):
    classes = [one for _, _, one in good_terms(book, function)]
    common = math.lcm(1, *[size for size, _ in classes])
    return all(any(whole % size == left for size, left in classes) for whole in range(common))


def measure(book, function):
    """The pace and the order that the room takes."""
    good = good_terms(book, function)
    whole = [(step * many, step, many) for step, many, one in good if one == (1, 0)]
    if whole:
        return min(whole)[1:]
    return math.lcm(*[step for step, _, _ in good]), max(many for _, many, _ in good)


def room_of(book):
    return sum(math.prod(measure(book, function)) for function in range(book.functions))


def rest_degree_of(book):
    return max([sum(powers) for line in book.lines() for _, powers in line.rest()], default=-1)


def box_size(book):
    """How many places all boxes have."""
    return sum(box_length(book) ** line.letters for line in book.lines())


def box_length(book):
    measures = [measure(book, function) for function in range(book.functions)]
    most = max([many for _, many in measures] + [rest_degree_of(book) + 1])
    return math.lcm(*[step for step, _ in measures]) * most


def brute_dimension(book):
    """The dimension of a held book, None if nobody keeps it."""
    measures = [measure(book, function) for function in range(book.functions)]
    lengths = [max(many, rest_degree_of(book) + 1) for _, many in measures]
    rows = {}
    for line in book.lines():
        for place in itertools.product(range(box_length(book)), repeat=line.letters):
            grow(rows, row_at(line, place, measures, lengths))
    if (9,) in rows:
        return None
    return sum(step * length for (step, _), length in zip(measures, lengths)) - len(rows)


def row_at(line, place, measures, lengths):
    """The instance as a dict: the key (function, remainder, power) for an unknown, (9,) for what stands beside."""
    row = {}
    for number, function, argument in line.terms():
        whole = sum(a * x for a, x in zip(argument, [*place, 1]))
        for power in range(lengths[function]):
            key = (function, whole % measures[function][0], power)
            row[key] = row.get(key, 0) + as_left(number) * whole ** power
    row[(9,)] = sum(as_left(number) * math.prod(x ** power for x, power in zip(place, powers))
                    for number, powers in line.rest())
    return {key: number % PRIME for key, number in row.items() if number % PRIME}


def as_left(number):
    told = Fraction(number.top, number.bottom)
    return told.numerator * pow(told.denominator, -1, PRIME)


def grow(rows, row):
    while row:
        head = min(row)
        if head not in rows:
            by = pow(row[head], -1, PRIME)
            rows[head] = {key: number * by % PRIME for key, number in row.items()}
            return
        times = row[head]
        for key, number in rows[head].items():
            row[key] = (row.get(key, 0) - times * number) % PRIME
        row = {key: number for key, number in row.items() if number}


def random_book(draw):
    functions = draw.choice([1, 1, 2])
    lines = []
    for function in range(functions):
        line = draw.choice([SUMS, ODDS, SQUARES, repeating(2), repeating(3), middles(2), differences(3, 1)])
        other = put(line, 2, draw.choice([[[1, 0, 0], [0, 1, 0]], [[1, 1, 1], [0, 1, -2]], [[0, 1, 3], [1, 0, 1]]]))
        lines += renamed(Book(2, [other]), [function, 1 - function]).lines()
    lines += [random_line(draw, functions, 4) for _ in range(draw.choice([0, 0, 1, 2]))]
    lines += [told(draw.randrange(functions), draw.randint(-6, 6), draw.randint(-1, 1))] if draw.random() < 0.3 else []
    return Book(functions, lines)


def small_books(seed, many):
    """Random books that hold all, of rooms that are not too great to go through all."""
    draw = random.Random(seed)
    found = []
    while len(found) < many:
        book = random_book(draw)
        if all(is_held_by(book, k) for k in range(book.functions)) and room_of(book) <= 24 and box_size(book) < 800:
            found.append(book)
    return found


def line_at_remainder(draw, size, left):
    """A line that holds f at the numbers with this remainder."""
    if draw.random() < 0.5:
        more = [(draw.randint(-2, 2), 0, [0, draw.randint(-3, 3)])] if draw.random() < 0.5 else []
        rest = [(draw.randint(-1, 1), [draw.randint(0, 2)])] if draw.random() < 0.4 else []
        return Line(1, [(1, 0, [size, left]), *more], rest)
    terms = [(1, 0, [size, size * draw.choice([1, 1, 2]), left]), (-1, 0, [size, 0, left]),
             (draw.choice([-1, 1, 0, 2]), 0, [0, size, draw.choice([0, left])])]
    return Line(2, terms, [(draw.randint(-1, 1), [1, 1])] if draw.random() < 0.3 else [])


def parted_books(seed, many):
    """Random books that hold f by several classes alone, some of them more than it takes."""
    draw = random.Random(seed)
    found = []
    while len(found) < many:
        size = draw.choice([2, 2, 3, 4])
        lines = [line_at_remainder(draw, size, left) for left in range(size)]
        for _ in range(draw.randint(0, 6 - size)):
            lines.append(draw.choice([random_line(draw, 1), bracket(draw.choice([2, 3, 4, 6]), draw.randint(0, 3)),
                                      told(0, draw.randint(-3, 3), draw.randint(-1, 1))]))
        draw.shuffle(lines)
        book = Book(1, lines)
        is_parted = is_held_by(book, 0) and not any(one == (1, 0) for _, _, one in good_terms(book, 0))
        if is_parted and room_of(book) <= 24 and box_size(book) < 800:
            found.append(book)
    return found


def free_rows(rows):
    """The positions of the rows of Ratios that are not made of those ahead of them."""
    found, free = {}, []
    for position, row in enumerate(rows):
        many = len(found)
        grow(found, {place: as_left(number) for place, number in enumerate(row) if as_left(number)})
        if len(found) > many:
            free.append(position)
    return free
