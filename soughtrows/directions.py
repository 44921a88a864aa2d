"""Directions of arguments, and the terms that stand alone with theirs."""

from math import lcm

from soughtrows.basics import greatest_divisor, is_position
from soughtrows.errors import InvalidPosition, NotAlone
from soughtrows.lines import check_line
from soughtrows.sums import check_argument


def direction(letters, argument):
    """The direction of the argument, None if it has none."""
    check_argument(letters, argument)
    part = argument[:letters]
    common = greatest_divisor(part)
    if common == 0:
        return None
    first = [number for number in part if number != 0][0]
    if first < 0:
        common = -common
    return [number // common for number in part]


def alone(line):
    """The rising list of the positions of the terms that stand alone."""
    check_line(line)
    found = _directions(line)
    return [position for position, way in enumerate(found) if way is not None and found.count(way) == 1]


def pace(line, position):
    """The pace of the term at the position."""
    part, _ = _lone_argument(line, position)
    # Without other directions the common divisor is the pace; with some it goes into each of their numbers.
    found = greatest_divisor(part)
    for other in other_directions(line, position):
        found = lcm(found, _least_step(part, other))
    return found


def order(line, position):
    """The order of the term at the position."""
    _lone_argument(line, position)
    return max([1, len(other_directions(line, position))])


def class_of(line, position):
    """The class of the term at the position."""
    part, number = _lone_argument(line, position)
    common = greatest_divisor(part)
    return common, number % common


def other_directions(line, position):
    """The unlike directions of the terms at other positions."""
    found = []
    for k, way in enumerate(_directions(line)):
        if k != position and way is not None and way not in found:
            found.append(way)
    return found


def _lone_argument(line, position):
    """The letter part and the last number of the argument of a term that stands alone."""
    check_line(line)
    terms = line.terms()
    if not is_position(len(terms), position):
        raise InvalidPosition(position)
    if position not in alone(line):
        raise NotAlone()
    argument = terms[position][2]
    return argument[:-1], argument[-1]


def _directions(line):
    return [direction(line.letters, term[2]) for term in line.terms()]


def _least_step(part, other):
    """The least number above 0 that part leads some whole numbers to that the other direction leads to 0."""
    # As nothing but 1 goes into all of the direction w, what it leads to 0 is made, in whole numbers,
    # of the lists with w[j] at i and -w[i] at j.
    return greatest_divisor([
        part[i] * other[j] - part[j] * other[i]
        for i in range(len(part)) for j in range(i)
    ])
