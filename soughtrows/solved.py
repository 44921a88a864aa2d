"""Rows of numbers: their steps, kernels, solutions, bars and mixes."""

from soughtrows.basics import is_count, is_list
from soughtrows.errors import InvalidGoal, InvalidGoals, InvalidMany, InvalidRows
from soughtrows.ratios import Ratio, are_numbers, as_ratio
from soughtrows.reducing import columns_of, kernel_rows, led_to, reduced, solved, whole_row

MOST_ROWS = 60
MOST_WIDE = 60


def steps(rows):
    """The steps of the rows."""
    _check_rows(rows)
    if len(rows) == 0:
        return []
    found, _, pivot = reduced(_whole_rows(rows), len(rows[0]))
    return [[Ratio(number, pivot) for number in row] for row in found]


def kernel(rows, wide):
    """The kernel of rows of this width."""
    _check_rows(rows)
    if not _is_width(wide):
        raise InvalidMany(wide)
    if len(rows) > 0 and len(rows[0]) != wide:
        raise InvalidRows(rows)
    return kernel_rows(_whole_rows(rows), wide)


def solution(rows, goals):
    """A solution of the rows with these goals, None if there is none."""
    _check_rows_with_goals(rows, goals)
    return _solved(rows, goals, len(rows[0]))


def is_solution(rows, goals, value):
    """Whether any value is a solution of the rows with these goals."""
    _check_rows_with_goals(rows, goals)
    if not are_numbers(value, len(rows[0])):
        return False
    return all([led_to(row, value) == as_ratio(goal) for row, goal in zip(rows, goals)])


def bar(rows, goals):
    """A bar of the rows with these goals, None if there is none."""
    _check_rows_with_goals(rows, goals)
    wide = len(rows[0])
    return _solved(columns_of(rows, wide) + [goals], [0] * wide + [1], len(rows))


def is_bar(rows, goals, value):
    """Whether any value is a bar of the rows with these goals."""
    _check_rows_with_goals(rows, goals)
    if not are_numbers(value, len(rows)):
        return False
    sums = [led_to(column, value) for column in columns_of(rows, len(rows[0]))]
    return all([found.sign == 0 for found in sums]) and led_to(goals, value).sign != 0


def mix(rows, goal):
    """A mix of the rows for the goal, None if there is none."""
    _check_rows_with_goal(rows, goal)
    return _solved(columns_of(rows, len(goal)), goal, len(rows))


def is_mix(rows, goal, value):
    """Whether any value is a mix of the rows for the goal."""
    _check_rows_with_goal(rows, goal)
    if not are_numbers(value, len(rows)):
        return False
    columns = columns_of(rows, len(goal))
    return all([led_to(column, value) == as_ratio(number) for column, number in zip(columns, goal)])


def _solved(rows, goals, wide):
    """A list of this width that each row leads to its goal, None if there is none."""
    return solved(_ratio_rows(rows), [as_ratio(goal) for goal in goals], wide)


def _ratio_rows(rows):
    return [[as_ratio(number) for number in row] for row in rows]


def _whole_rows(rows):
    return [whole_row(row) for row in _ratio_rows(rows)]


def _is_width(value):
    return is_count(value) and 1 <= value <= MOST_WIDE


def _check_rows(rows):
    if not is_list(rows) or len(rows) > MOST_ROWS or not all([is_list(row) for row in rows]):
        raise InvalidRows(rows)
    if len(rows) > 0 and not _is_width(len(rows[0])):
        raise InvalidRows(rows)
    if not all([are_numbers(row, len(rows[0])) for row in rows]):
        raise InvalidRows(rows)


def _check_rows_with_goals(rows, goals):
    _check_rows(rows)
    if len(rows) == 0:
        raise InvalidRows(rows)
    if not are_numbers(goals, len(rows)):
        raise InvalidGoals(goals)


def _check_rows_with_goal(rows, goal):
    _check_rows(rows)
    if not is_list(goal) or not _is_width(len(goal)) or not are_numbers(goal, len(goal)):
        raise InvalidGoal(goal)
    if len(rows) > 0 and len(goal) != len(rows[0]):
        raise InvalidGoal(goal)
