"""Sheets: instances of a line that leave nothing but differences of one function; and what a book holds by them."""

from math import lcm

from soughtrows.basics import greatest_divisor, is_list, is_position, product_sum
from soughtrows.books import check_book, check_function
from soughtrows.checks import check_place, is_place
from soughtrows.directions import alone, class_of, order, other_directions, pace
from soughtrows.errors import InvalidSheet, NotHeld
from soughtrows.ratios import Ratio
from soughtrows.wholes import divisor_mix

MOST_SHEETS = 48
MOST_SHIFTS = 5
MOST_PACE = 12
MOST_ORDER = 5


def is_sheet(book, function, value):
    """Whether any value is a sheet of the function."""
    check_book(book)
    check_function(book, function)
    return _is_any_sheet(book, value) and sheet_term(book, value)[1] == function


def steps_of(book, sheet):
    """The steps of the sheet."""
    check_book(book)
    _check_sheet(book, sheet)
    part = sheet_term(book, sheet)[2][:-1]
    return [product_sum(part, shift) for shift in sheet[2]]


def sheet_blend(book, sheet, place):
    """The blend of the sheet at the place."""
    check_book(book)
    _check_sheet(book, sheet)
    check_place(book.lines()[sheet[0]].letters, place)
    return [(Ratio(sign), sheet[0], told) for sign, told in shifted_places(place, sheet[2])]


def is_held(book, function):
    """Whether the book holds the function."""
    check_book(book)
    check_function(book, function)
    return _covers([told[4] for told in _good_terms(book, function)])


def loose(book):
    """The rising list of the loose functions."""
    check_book(book)
    return [function for function in range(book.functions) if not is_held(book, function)]


def sheets(book, function):
    """Sheets of the function with one step and as many shifts each, whose classes cover all whole numbers."""
    if not is_held(book, function):
        raise NotHeld()
    return taken(book, function)[2]


def room(book):
    """The room of a book that holds all its functions."""
    check_held(book)
    measures = [taken(book, function)[:2] for function in range(book.functions)]
    return sum([step * many for step, many in measures])


def is_cover(book, function, value):
    """Whether any value is a list of sheets of the function, of good terms whose classes cover all whole numbers."""
    if not is_list(value) or not 1 <= len(value) <= MOST_SHEETS:
        return False
    if not all([is_sheet(book, function, sheet) for sheet in value]):
        return False
    classes = {(told[0], told[1]): told[4] for told in _good_terms(book, function)}
    used = [(sheet[0], sheet[1]) for sheet in value]
    return all([told in classes for told in used]) and _covers([classes[told] for told in used])


def check_held(book):
    if len(loose(book)) > 0:
        raise NotHeld()


def taken(book, function):
    """What the room of a held function takes: one step, how many shifts, and the sheets with these."""
    return _measured(book, _room_terms(book, function))


def needed(book, function):
    """The same, of no more terms of the room than it takes to cover all whole numbers."""
    return _measured(book, _covering(_room_terms(book, function)))


def shifted_places(place, shifts):
    """The tuples (sign, place) of all lots of the shifts, in the sequence of a sheet's blend."""
    if len(shifts) == 0:
        return [(1, list(place))]
    rest = shifted_places(place, shifts[1:])
    ahead = [number + by for number, by in zip(place, shifts[0])]
    return [(-sign, told) for sign, told in rest] + shifted_places(ahead, shifts[1:])


def sheet_term(book, sheet):
    """The term (number, function, argument) of the sheet."""
    return book.lines()[sheet[0]].terms()[sheet[1]]


def _good_terms(book, function):
    """The good terms with the function: tuples (position of a line, position in its terms, pace, order, class)."""
    found = []
    for at, line in enumerate(book.lines()):
        terms = line.terms()
        for position in alone(line):
            if terms[position][1] == function:
                found.append((at, position, pace(line, position), order(line, position), class_of(line, position)))
    return [told for told in found if told[2] <= MOST_PACE and told[3] <= MOST_ORDER]


def _room_terms(book, function):
    """The good terms that the room of a held function takes."""
    good = _good_terms(book, function)
    whole = [told for told in good if told[4] == (1, 0)]
    # Among rooms alike small the one with fewer shifts has the shorter blends.
    return good if len(whole) == 0 else [min(whole, key=lambda told: (told[2] * told[3], told[3]))]


def _covering(terms):
    """Some of the terms, with small paces and orders, whose classes cover what the classes of all cover."""
    common = 1
    for told in terms:
        common = lcm(common, told[4][0])
    left, found = list(range(common)), []
    for told in sorted(terms, key=lambda one: one[2] * one[3]):
        size, beside = told[4]
        further = [whole for whole in left if whole % size != beside]
        if len(further) < len(left):
            left, found = further, found + [told]
    return found


def _measured(book, terms):
    """The least step and the number of shifts that all of the terms can have, and their sheets with these."""
    step, many = 1, max([told[3] for told in terms])
    for told in terms:
        step = lcm(step, told[2])
    lines = book.lines()
    return step, many, [(told[0], told[1], _shifts(lines[told[0]], told[1], step, many)) for told in terms]


def _covers(classes):
    """Whether the classes together cover all whole numbers."""
    if (1, 0) in classes:
        return True
    common = 1
    for size, _ in classes:
        common = lcm(common, size)
    for whole in range(common):
        if not any([whole % size == left for size, left in classes]):
            return False
    return True


def _shifts(line, position, step, many):
    """So many shifts with this step that strike all other directions of the term."""
    part = line.terms()[position][2][:-1]
    found = [_striking_shift(part, other, step) for other in other_directions(line, position)]
    common = greatest_divisor(part)
    while len(found) < many:
        found.append([number * (step // common) for number in divisor_mix(part)])
    return found


def _striking_shift(part, other, step):
    """A shift with this step that the other direction leads to 0."""
    pairs = [(i, j) for i in range(len(part)) for j in range(i)]
    least = [part[i] * other[j] - part[j] * other[i] for i, j in pairs]
    times = step // greatest_divisor(least)
    found = [0] * len(part)
    for (i, j), many in zip(pairs, divisor_mix(least)):
        found[i] = found[i] + times * many * other[j]
        found[j] = found[j] - times * many * other[i]
    return found


def _is_any_sheet(book, value):
    """Whether any value is a sheet of a function of the book."""
    if not isinstance(value, tuple) or len(value) != 3:
        return False
    at, position, shifts = value
    lines = book.lines()
    if not is_position(len(lines), at) or not is_position(len(lines[at].terms()), position):
        return False
    return _are_shifts(lines[at], shifts) and position in alone(lines[at]) and _strikes(lines[at], position, shifts)


def _are_shifts(line, value):
    if not is_list(value) or not 1 <= len(value) <= MOST_SHIFTS:
        return False
    return all([is_place(line.letters, shift) for shift in value])


def _strikes(line, position, shifts):
    """Whether the shifts strike all other directions of the term, and none strikes its own."""
    part = line.terms()[position][2][:-1]
    if not all([product_sum(part, shift) != 0 for shift in shifts]):
        return False
    return all([
        any([product_sum(other, shift) == 0 for shift in shifts]) for other in other_directions(line, position)
    ])


def _check_sheet(book, sheet):
    if not _is_any_sheet(book, sheet):
        raise InvalidSheet(sheet)
