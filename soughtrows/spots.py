"""Spots, whole numbers at which functions are asked; and values, which are told at such."""

from soughtrows.basics import is_integer, is_list, is_position
from soughtrows.ratios import is_number

MOST_SPOTS = 40


def are_spots(functions, value):
    """Whether any value is a list of at most 40 unlike tuples (function below this number, INTEGER)."""
    if not is_list(value) or len(value) > MOST_SPOTS:
        return False
    return all([_is_spot(functions, spot) for spot in value]) and _are_unlike(value)


def are_values(functions, value):
    """Whether any value is a list of at most 40 tuples (function below this number, INTEGER, NUMBER), no spot twice."""
    if not is_list(value) or len(value) > MOST_SPOTS:
        return False
    if not all([_is_value(functions, told) for told in value]):
        return False
    return _are_unlike([(function, whole) for function, whole, _ in value])


def _is_spot(functions, value):
    if not isinstance(value, tuple) or len(value) != 2:
        return False
    return is_position(functions, value[0]) and is_integer(value[1])


def _is_value(functions, value):
    if not isinstance(value, tuple) or len(value) != 3:
        return False
    return _is_spot(functions, value[:2]) and is_number(value[2])


def _are_unlike(spots):
    return len(set(list(spots))) == len(spots)
