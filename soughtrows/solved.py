"""Rows of numbers: their steps, kernels, solutions, bars and mixes."""

from soughtrows.basics import is_count, is_list
from soughtrows.errors import InvalidGoal, InvalidGoals, InvalidMany, InvalidRows
from soughtrows.ratios import Ratio, are_numbers, as_ratio
from soughtrows.reducing import reduced

MOST_ROWS = 60
MOST_WIDE = 60


def steps(rows):
    """The steps of the rows."""
    _check_rows(rows)
    if len(rows) == 0:
        return []
    found, _, pivot = reduced(_ratio_rows(rows), len(rows[0]))
    return [[Ratio(number, pivot) for number in row] for row in found]


def kernel(rows, wide):
    """The kernel of rows of this width."""
    _check_rows(rows)
    if not _is_width(wide):
        raise InvalidMany(wide)
    if len(rows) > 0 and len(rows[0]) != wide:
        raise InvalidRows(rows)
    # Mirrored rows have their heads as far right as can be: so whatever is free stands ahead
    # of the heads that hang on it, and the lists come out in steps.
    mirrored, places, pivot = reduced([row[::-1] for row in _ratio_rows(rows)], wide)
    found = [row[::-1] for row in mirrored]
    heads = [wide - 1 - place for place in places]
    return [_kernel_list(found, heads, pivot, free, wide) for free in range(wide) if free not in heads]


def _kernel_list(found, heads, pivot, free, wide):
    """The list that all rows lead to 0, with 1 at this free place and 0 at the others."""
    made = [Ratio(0)] * wide
    made[free] = Ratio(1)
    for row, head in zip(found, heads):
        made[head] = Ratio(-row[free], pivot)
    return made


def solution(rows, goals):
    """A solution of the rows with these goals, None if there is none."""
    _check_rows_with_goals(rows, goals)
    return _solved(rows, goals, len(rows[0]))


def is_solution(rows, goals, value):
    """Whether any value is a solution of the rows with these goals."""
    _check_rows_with_goals(rows, goals)
    if not are_numbers(value, len(rows[0])):
        return False
    return all([_led(row, value) == as_ratio(goal) for row, goal in zip(rows, goals)])


def bar(rows, goals):
    """A bar of the rows with these goals, None if there is none."""
    _check_rows_with_goals(rows, goals)
    wide = len(rows[0])
    conditions = [_column(rows, place) for place in range(wide)] + [goals]
    return _solved(conditions, [0] * wide + [1], len(rows))


def is_bar(rows, goals, value):
    """Whether any value is a bar of the rows with these goals."""
    _check_rows_with_goals(rows, goals)
    if not are_numbers(value, len(rows)):
        return False
    sums = [_led(_column(rows, place), value) for place in range(len(rows[0]))]
    return all([found.sign == 0 for found in sums]) and _led(goals, value).sign != 0


def mix(rows, goal):
    """A mix of the rows for the goal, None if there is none."""
    _check_rows_with_goal(rows, goal)
    return _solved([_column(rows, place) for place in range(len(goal))], goal, len(rows))


def is_mix(rows, goal, value):
    """Whether any value is a mix of the rows for the goal."""
    _check_rows_with_goal(rows, goal)
    if not are_numbers(value, len(rows)):
        return False
    return all([_led(_column(rows, place), value) == as_ratio(number) for place, number in enumerate(goal)])


def _solved(rows, goals, wide):
    """A list of this width that each row leads to its goal, None if there is none."""
    told = [[as_ratio(number) for number in [*row, goal]] for row, goal in zip(rows, goals)]
    found, heads, pivot = reduced(told, wide + 1)
    if wide in heads:
        return None
    made = [Ratio(0)] * wide
    for row, head in zip(found, heads):
        made[head] = Ratio(row[wide], pivot)
    return made


def _led(row, numbers):
    """What the row leads the numbers to."""
    return Ratio.total([one * two for one, two in zip(row, numbers)])


def _column(rows, place):
    return [row[place] for row in rows]


def _ratio_rows(rows):
    return [[as_ratio(number) for number in row] for row in rows]


def _is_width(value):
    return is_count(value) and 1 <= value <= MOST_WIDE


def _check_rows(rows):
    if not is_list(rows) or len(rows) > MOST_ROWS or not all([is_list(row) for row in rows]):
        raise InvalidRows(rows)
    if len(rows) > 0 and not _is_width(len(rows[0])):
        raise InvalidRows(rows)
    if not all([are_numbers(row, len(rows[0])) for row in rows]):
        raise InvalidRows(rows)


def _check_rows_with_goals(rows, goals):
    _check_rows(rows)
    if len(rows) == 0:
        raise InvalidRows(rows)
    if not are_numbers(goals, len(rows)):
        raise InvalidGoals(goals)


def _check_rows_with_goal(rows, goal):
    _check_rows(rows)
    if not is_list(goal) or not _is_width(len(goal)) or not are_numbers(goal, len(goal)):
        raise InvalidGoal(goal)
    if len(rows) > 0 and len(goal) != len(rows[0]):
        raise InvalidGoal(goal)
