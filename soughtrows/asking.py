"""Answers to commands that only ask."""

from soughtrows.given import forced
from soughtrows.kept import value_at
from soughtrows.lines import instance
from soughtrows.lots import first_free, rank_of
from soughtrows.sheets import loose, room
from soughtrows.shelves import told_states
from soughtrows.spaces import degree, dimension, period
from soughtrows.ties import alike, needless
from soughtrows.words import counts_word, lots_word, number_word, parts_word, rest_word, terms_word, tolds_word


def answer(shelf, word, found):
    """The answer to a command with this word, and what its further words stand for."""
    if word == "state":
        return shelf.states[found[0]]
    if word == "states":
        return told_states(shelf.states)
    if word == "claimed":
        return shelf.notes[found[0]][0]
    if word == "names":
        return " ".join(sorted(list(shelf.things))) if len(shelf.things) > 0 else "-"
    asked = ASKED[word]
    return asked(*found)


def _show(pair):
    kind, thing = pair
    if kind == "LINE":
        return _line_word(thing)
    if kind == "BOOK":
        return " | ".join([str(thing.functions)] + [_line_word(line) for line in thing.lines()])
    if kind == "COURSE":
        return parts_word(thing.parts())
    return lots_word(thing) if kind == "SPOTS" else tolds_word(thing)


def _line_word(line):
    return f"{line.letters} {terms_word(line.terms())} {rest_word(line.rest())}"


def _same(pair, other):
    return _yes_or_no(pair[1] == other)


def _says(line, place):
    values, number = instance(line, place)
    return f"{tolds_word(values)} {number_word(number)}"


def _worth(line, filling, place):
    return number_word(value_at(line, filling, place))


def _at(course, whole):
    return number_word(course.at(whole))


def _loose(book):
    return counts_word(loose(book))


def _needless(book):
    return counts_word(needless(book))


def _room(book):
    return str(room(book))


def _dimension(book):
    return str(dimension(book))


def _period(book):
    return str(period(book))


def _degree(book):
    return str(degree(book))


def _alike(book, other):
    return _yes_or_no(alike(book, other))


def _forced(book, values, function, whole):
    found = forced(book, values, function, whole)
    return "open" if found is None else number_word(found)


def _rank(book, spots):
    return str(rank_of(book, spots))


def _free(book, spots):
    return lots_word(first_free(book, spots))


def _yes_or_no(is_so):
    return "yes" if is_so else "no"


ASKED = {
    "show": _show, "same": _same, "says": _says, "worth": _worth, "at": _at, "loose": _loose, "needless": _needless,
    "room": _room, "dimension": _dimension, "period": _period, "degree": _degree, "alike": _alike, "forced": _forced,
    "rank": _rank, "free": _free,
}
