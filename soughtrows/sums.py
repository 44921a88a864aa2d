"""Sums of letters: arguments and rests, their worths at places, and both with puts."""

from soughtrows.basics import are_counts, are_integers, is_list, product_sum
from soughtrows.checks import check_letters, check_more, check_place
from soughtrows.errors import InvalidArgument, InvalidPuts, InvalidRest
from soughtrows.joining import joined
from soughtrows.ratios import Ratio, is_number

MOST_PIECES = 20
MOST_POWERS = 3


def is_argument(letters, value):
    """Whether any value is an argument of so many letters."""
    check_letters(letters)
    return are_integers(value, letters + 1)


def argument_at(letters, argument, place):
    """The worth of the argument at the place."""
    check_argument(letters, argument)
    check_place(letters, place)
    return product_sum(argument, place) + argument[letters]


def argument_put(letters, argument, more, puts):
    """The argument with puts."""
    check_argument(letters, argument)
    check_puts(letters, more, puts)
    made = [0] * more + [argument[letters]]
    for many, told in zip(argument, puts):
        made = [one + many * two for one, two in zip(made, told)]
    return made


def plain_rest(letters, rest):
    """The plain pieces of the rest."""
    check_rest(letters, rest)
    return _pieces([(tuple(powers), number) for number, powers in rest])


def rest_at(letters, rest, place):
    """The worth of the rest at the place."""
    check_rest(letters, rest)
    check_place(letters, place)
    return Ratio.total([number * power_product(powers, place) for number, powers in rest])


def rest_degree(letters, rest):
    """The greatest sum of powers of a plain piece, -1 if there is none."""
    return max([sum(powers) for _, powers in plain_rest(letters, rest)], default=-1)


def rest_put(letters, rest, more, puts):
    """The rest with puts, plain."""
    check_rest(letters, rest)
    check_puts(letters, more, puts)
    sums = [_sum_of_letters(told) for told in puts]
    pairs = []
    for number, powers in rest:
        pairs.extend(_expanded(number, powers, more, sums))
    return _pieces(pairs)


def power_product(powers, numbers):
    """The numbers multiplied, each as often as its power tells."""
    found = 1
    for power, number in zip(powers, numbers):
        for _ in range(power):
            found = found * number
    return found


def check_argument(letters, argument):
    if not is_argument(letters, argument):
        raise InvalidArgument(argument)


def check_puts(letters, more, puts):
    check_more(more)
    if not is_list(puts) or len(puts) != letters or not all([is_argument(more, told) for told in puts]):
        raise InvalidPuts(puts)


def check_rest(letters, rest):
    check_letters(letters)
    if not is_list(rest) or len(rest) > MOST_PIECES or not all([_is_piece(letters, piece) for piece in rest]):
        raise InvalidRest(rest)


def _is_piece(letters, value):
    if not isinstance(value, tuple) or len(value) != 2:
        return False
    number, powers = value
    return is_number(number) and are_counts(powers, letters) and sum(powers) <= MOST_POWERS


def _pieces(pairs):
    """The plain pieces of pairs (tuple of powers, NUMBER)."""
    return [(number, list(powers)) for powers, number in joined(pairs)]


def _sum_of_letters(argument):
    """The argument as pairs (tuple of powers, NUMBER)."""
    letters = len(argument) - 1
    # The last number stands beside no letter: at its place all powers are 0.
    units = [tuple([1 if k == at else 0 for k in range(letters)]) for at in range(letters + 1)]
    return list(zip(units, argument))


def _expanded(number, powers, more, sums):
    """A piece with a sum for each of its letters, multiplied out: pairs (tuple of powers, NUMBER)."""
    found = [((0,) * more, number)]
    for power, told in zip(powers, sums):
        for _ in range(power):
            found = _multiplied(found, told)
    return found


def _multiplied(pairs, others):
    return joined([
        (tuple([one + two for one, two in zip(left, right)]), number * other)
        for left, number in pairs for right, other in others
    ])
