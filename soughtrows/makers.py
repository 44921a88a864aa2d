"""Lines that are known ones, of two letters."""

from math import comb

from soughtrows.basics import is_count
from soughtrows.errors import InvalidMany
from soughtrows.lines import Line

MOST_MIDDLES = 12
MOST_DIFFERENCES = 4
MOST_STEP = 12


def sums():
    """f(x + y) = f(x) + f(y)."""
    return Line(2, [(1, 0, [1, 1, 0]), (-1, 0, [1, 0, 0]), (-1, 0, [0, 1, 0])], [])


def squares():
    """f(x + y) + f(x - y) = 2 f(x) + 2 f(y)."""
    return Line(2, [(1, 0, [1, 1, 0]), (1, 0, [1, -1, 0]), (-2, 0, [1, 0, 0]), (-2, 0, [0, 1, 0])], [])


def middles(many):
    """f(x + many y) + f(x - many y) = 2 f(x)."""
    _check_many(many, MOST_MIDDLES)
    return Line(2, [(1, 0, [1, many, 0]), (1, 0, [1, -many, 0]), (-2, 0, [1, 0, 0])], [])


def differences(many, step):
    """The many-fold difference of f by step times y at x is 0."""
    _check_many(many, MOST_DIFFERENCES)
    _check_many(step, MOST_STEP)
    terms = []
    for at in range(many + 1):
        sign = 1 if (many - at) % 2 == 0 else -1
        terms.append((sign * comb(many, at), 0, [1, at * step, 0]))
    return Line(2, terms, [])


def parted():
    """f(x + y) = g(x) + h(y)."""
    return Line(2, [(1, 0, [1, 1, 0]), (-1, 1, [1, 0, 0]), (-1, 2, [0, 1, 0])], [])


def _check_many(value, most):
    if not is_count(value) or not 1 <= value <= most:
        raise InvalidMany(value)
