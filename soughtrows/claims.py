"""Claims about books, and papers that show that they are true."""

from soughtrows.basics import is_position
from soughtrows.books import Book, is_line_of
from soughtrows.checks import is_place
from soughtrows.courses import is_filling
from soughtrows.errors import InvalidClaim
from soughtrows.follows import break_by, follows
from soughtrows.kept import break_in, is_keeping, keeps_book, worth_at
from soughtrows.lots import settles, twins
from soughtrows.nones import is_none_blend, none_blend
from soughtrows.sheets import is_cover, is_held, sheets
from soughtrows.spaces import is_kept, space
from soughtrows.spots import are_spots

PAIRS = (("held", "loose"), ("kept", "nobody"), ("follows", "breaks"), ("keeps", "misses"), ("settles", "open"))


def words():
    """The tuples of a claim's word and that of its contrary."""
    return list(PAIRS)


def is_claim(value):
    """Whether any value is a claim."""
    if not isinstance(value, tuple) or len(value) < 2:
        return False
    if _pair_of(value[0]) is None or not isinstance(value[1], Book):
        return False
    return _are_parts(_pair_of(value[0])[0], value[1], list(value[2:]))


def is_true(claim):
    """Whether the claim is true."""
    _check_claim(claim)
    word, *parts = claim
    first, _ = _pair_of(word)
    return _is_first_true(first, parts) == (word == first)


def contrary(claim):
    """The claim that is true just if this one is not."""
    _check_claim(claim)
    first, second = _pair_of(claim[0])
    return (second if claim[0] == first else first,) + copied(claim[1:])


def paper_of(claim):
    """A paper of the claim, None if it is not true, or if its kind has none."""
    _check_claim(claim)
    word, book, *parts = claim
    if word == "held":
        return sheets(book, parts[0]) if is_held(book, parts[0]) else None
    if word == "kept":
        return space(book)[0] if is_kept(book) else None
    if word == "nobody":
        return none_blend(book)
    if word == "breaks":
        return break_by(book, parts[0])
    if word == "misses":
        return break_in(book, parts[0])
    if word == "open":
        return twins(book, parts[0])
    return None


def is_paper_of(claim, value):
    """Whether any value is a paper of the claim."""
    _check_claim(claim)
    word, book, *parts = claim
    if word == "held":
        return is_cover(book, parts[0], value)
    if word == "kept":
        return is_keeping(book, value)
    if word == "nobody":
        return is_none_blend(book, value)
    # The papers of all others are tuples of two.
    if not isinstance(value, tuple) or len(value) != 2:
        return False
    one, two = value
    if word == "breaks":
        return is_keeping(book, one) and _is_break(parts[0], one, two)
    if word == "misses":
        lines = book.lines()
        return is_position(len(lines), one) and _is_break(lines[one], parts[0], two)
    if word == "open":
        return is_keeping(book, one) and is_keeping(book, two) and _are_twins(parts[0], one, two)
    return False


def copied(value):
    """The same value with new lists and tuples."""
    if isinstance(value, list):
        return [copied(part) for part in value]
    return tuple([copied(part) for part in value]) if isinstance(value, tuple) else value


def _check_claim(claim):
    if not is_claim(claim):
        raise InvalidClaim(claim)


def _pair_of(word):
    """The two words of which this is one, None if there are none."""
    for pair in PAIRS:
        if word in pair:
            return pair
    return None


def _are_parts(first, book, parts):
    """Whether these are the further parts of a claim about the book, with the first word of its pair."""
    if first == "kept":
        return len(parts) == 0
    if len(parts) != 1:
        return False
    if first == "held":
        return is_position(book.functions, parts[0])
    if first == "follows":
        return is_line_of(book.functions, parts[0])
    if first == "keeps":
        return is_filling(parts[0], book.functions, book.functions)
    return are_spots(book.functions, parts[0])


def _is_first_true(first, parts):
    """Whether a claim with the first word of its pair is true."""
    if first == "held":
        return is_held(*parts)
    if first == "kept":
        return is_kept(*parts)
    if first == "follows":
        return follows(*parts)
    if first == "keeps":
        return keeps_book(*parts)
    return settles(*parts)


def _is_break(line, filling, place):
    """Whether any value is a place at which the filling does not keep the line."""
    return is_place(line.letters, place) and worth_at(line, filling, place).sign != 0


def _are_twins(spots, one, two):
    """Whether two fillings are unlike, but alike at the spots."""
    if list(one) == list(two):
        return False
    return all([one[function].at(whole) == two[function].at(whole) for function, whole in spots])
