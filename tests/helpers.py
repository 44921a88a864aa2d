"""What several test files need: values that are no numbers, and checks of refusals and of what is passed."""

import copy

from soughtrows.ratios import Ratio


def other_things():
    """Values that are neither numbers nor lists."""
    return [None, True, False, "", "1", "0/1", b"1", {}, {1: 1}, object(), int, len, {1, 2}, range(1)]


def not_integers():
    return other_things() + [[], [1], (), (1,), Ratio(1), Ratio(0), Ratio(1, 2)]


def not_counts():
    return not_integers() + [-1, -7, -10 ** 30]


def not_numbers():
    return other_things() + [[], [1], (), (1,), [Ratio(1)]]


def not_lists():
    return other_things() + [0, 1, -1, Ratio(1)]


def is_told(told, passed):
    """Whether an error tells what was passed, or an equal value of the same kind."""
    return told is passed or (type(told) is type(passed) and told == passed)


def check_value(test, error, value, function, /, *passed, **named):
    """The call raises just this error, with just this value."""
    with test.assertRaises(error) as caught:
        function(*passed, **named)
    test.assertIs(type(caught.exception), error)
    test.assertTrue(is_told(caught.exception.value, value), (caught.exception.value, value))


def check_bare(test, error, function, *passed):
    """The call raises just this error, which has no attributes."""
    with test.assertRaises(error) as caught:
        function(*passed)
    test.assertIs(type(caught.exception), error)


def check_too_many(test, what, limit, function, *passed):
    from soughtrows.errors import TooMany
    with test.assertRaises(TooMany) as caught:
        function(*passed)
    test.assertEqual((caught.exception.what, caught.exception.limit), (what, limit))


def check_parameters(test, function, good, wrong):
    """Each parameter is refused by its error, by position and by name, ahead of all that are wrong behind it.

    good: the tuples (name, valid value) in the sequence of the interface; wrong: a dict of name and
    (error, values that are refused)."""
    names = [name for name, _ in good]
    test.assertEqual(names, list(names_of(function)))
    values = dict(good)
    by_position = function(*values.values())
    test.assertEqual(function(**values), by_position)
    test.assertEqual(function(**{name: values[name] for name in reversed(names)}), by_position)
    for at, name in enumerate(names):
        if name not in wrong:
            continue
        error, refused = wrong[name]
        behind = {later: wrong[later][1][0] for later in names[at + 1:] if later in wrong}
        for value in refused:
            for passed in [{**values, name: value}, {**values, name: value, **behind}]:
                check_value(test, error, value, function, *passed.values())
                check_value(test, error, value, function, **passed)


def names_of(function):
    """The names of the parameters of a function, or of the constructor of a class."""
    if isinstance(function, type):
        code = function.__init__.__code__
        return code.co_varnames[1:code.co_argcount]
    return function.__code__.co_varnames[:function.__code__.co_argcount]


def unchanged(test, function, *passed):
    """What the call returns; all that is passed stays as it was."""
    before = copy.deepcopy(passed)
    found = function(*passed)
    test.assertEqual(passed, before)
    test.assertEqual(as_words(passed), as_words(before))
    return found


def as_words(value):
    """A value in words that tell integers, Ratios, lists and tuples apart."""
    if isinstance(value, (list, tuple)):
        inner = ", ".join(as_words(part) for part in value)
        return f"[{inner}]" if isinstance(value, list) else f"({inner})"
    return repr(value) if isinstance(value, (int, str, Ratio)) or value is None else type(value).__name__


def as_tuples(value):
    """The same value with tuples in the place of lists."""
    if isinstance(value, (list, tuple)):
        return tuple(as_tuples(part) for part in value)
    return value


def lists_in(value):
    """All lists that a value is, or holds."""
    found = [value] if isinstance(value, list) else []
    if isinstance(value, (list, tuple)):
        for part in value:
            found.extend(lists_in(part))
    return found


def check_new(test, *values):
    """No list of one of the values is also a list of another one, or twice in one."""
    marks = [id(part) for value in values for part in lists_in(value)]
    test.assertEqual(len(marks), len(set(marks)))
