"""Numbers and lists in words, as written forms and commands have them; None stands for words that are none."""

from math import gcd

from soughtrows.ratios import Ratio, as_ratio


def count_of(word):
    """The COUNT that the word tells."""
    if not word.isascii() or not word.isdigit():
        return None
    return None if len(word) > 1 and word.startswith("0") else int(word)


def integer_of(word):
    """The INTEGER that the word tells."""
    if not word.startswith("-"):
        return count_of(word)
    size = count_of(word[1:])
    return None if size is None or size == 0 else -size


def number_of(word):
    """The NUMBER that the word tells, a Ratio."""
    above, stroke, below = word.partition("/")
    top = integer_of(above)
    if top is None:
        return None
    if stroke == "":
        return Ratio(top)
    bottom = count_of(below)
    return None if bottom is None or bottom < 2 or gcd(top, bottom) > 1 else Ratio(top, bottom)


def all_told(found):
    """The list, if nothing in it is None."""
    return None if any([one is None for one in found]) else found


def number_word(number):
    return str(as_ratio(number))


def counts_word(whole):
    """COUNTS or INTEGERS with commas between."""
    return _joined([str(number) for number in whole], ",", "-")


def numbers_word(numbers):
    return _joined([number_word(number) for number in numbers], ",", "-")


def terms_word(terms):
    words = [f"{number_word(number)}:{function}:{counts_word(argument)}" for number, function, argument in terms]
    return _joined(words, ";", "none")


def rest_word(pieces):
    return _joined([f"{number_word(number)}:{counts_word(powers)}" for number, powers in pieces], ";", "none")


def lots_word(spots):
    return _joined([f"{function}:{whole}" for function, whole in spots], ";", "none")


def tolds_word(values):
    return _joined([f"{function}:{whole}:{number_word(number)}" for function, whole, number in values], ";", "none")


def parts_word(parts):
    return _joined([numbers_word(part) for part in parts], ";", "-")


def _joined(words, between, none):
    """The words with a sign between them; a word of its own if there are none."""
    return none if len(words) == 0 else between.join(words)
