"""[1] to [4]: the overview's example, and what holds over the whole program."""

import importlib
import inspect
import unittest

from brute import small_books
from helpers import as_tuples, as_words, check_new, lists_in
from known import ADDING, NOUGHT, ODD, ODDS, SAME, SPLIT, SQUARES, STAMPS, SUMS, differences, middles, repeating, told
from soughtrows.books import Book, said
from soughtrows.claims import is_paper_of, paper_of
from soughtrows.courses import Course
from soughtrows.desk import Desk, Trial
from soughtrows.follows import break_by, follows, shown
from soughtrows.given import clash, forced, through
from soughtrows.lines import Line, instance
from soughtrows.lots import first_free, least_spots, twins
from soughtrows.nones import none_blend
from soughtrows.plain import plain_dimension, plain_space
from soughtrows.ratios import Ratio
from soughtrows.sheets import sheets
from soughtrows.spaces import dimension, is_kept, is_space, space
from soughtrows.stretches import stray
from soughtrows.ties import ties

FUNCTIONS = {
    "basics": "is_integer(value) is_count(value)",
    "ratios": "is_number(value) Ratio(top, bottom=1)",
    "solved": "steps(rows) kernel(rows, wide) solution(rows, goals) is_solution(rows, goals, value) bar(rows, goals)"
              " is_bar(rows, goals, value) mix(rows, goal) is_mix(rows, goal, value)",
    "sums": "is_argument(letters, value) argument_at(letters, argument, place)"
            " argument_put(letters, argument, more, puts) plain_rest(letters, rest) rest_at(letters, rest, place)"
            " rest_degree(letters, rest) rest_put(letters, rest, more, puts)",
    "lines": "Line(letters, terms, rest) instance(line, place) put(line, more, puts) plus(line, other)"
             " times(line, number)",
    "books": "Book(functions, lines) with_line(book, line) without_line(book, position) renamed(book, order)"
             " is_blend(book, value) said(book, blend)",
    "directions": "direction(letters, argument) alone(line) pace(line, position) order(line, position)"
                  " class_of(line, position)",
    "sheets": "is_sheet(book, function, value) steps_of(book, sheet) sheet_blend(book, sheet, place)"
              " is_held(book, function) loose(book) sheets(book, function) room(book)",
    "courses": "Course(parts) plus(course, other) times(course, number) led(course, by, shift)"
               " difference(course, step) grown(period, numbers)",
    "kept": "value_at(line, filling, place) look(line, filling) keeps(line, filling) break_of(line, filling)"
            " keeps_book(book, filling) break_in(book, filling)",
    "spaces": "is_kept(book) dimension(book) period(book) degree(book) space(book) is_space(book, value)",
    "nones": "none_blend(book) is_none_blend(book, value)",
    "follows": "follows(book, line) break_by(book, line) shown(book, line, place) is_shown(book, line, place, value)",
    "ties": "ties(book, letters, shapes) needless(book) alike(book, other)",
    "given": "through(book, values) clash(book, values) is_clash(book, values, value)"
             " forced(book, values, function, whole)",
    "lots": "settles(book, spots) rank_of(book, spots) first_free(book, spots) least_spots(book) twins(book, spots)",
    "plain": "is_plainly_held(book) plain_value(line, filling, numbers) plain_dimension(book) plain_space(book)"
             " is_only_plain(book)",
    "makers": "sums() squares() parted() middles(many) differences(many, step)",
    "stretches": "inside(book, low, high) keeps_within(book, low, high, tables) break_within(book, low, high, tables)"
                 " is_long(book, low, high) stray(book, low, high)",
    "texts": "sorts() is_of_sort(sort, value) written(sort, value)",
    "readers": "read(text)",
    "claims": "words() is_claim(value) is_true(claim) contrary(claim) paper_of(claim) is_paper_of(claim, value)",
    "commands": "is_name(value) is_command(value) is_deed(value)",
    "desk": "Desk() Trial(desk) tried(desk, action)",
}
METHODS = {
    Ratio: "over(other) size() is_below(other) is_at_most(other) total(numbers)",
    Line: "terms() rest()", Book: "lines()", Course: "parts() at(whole)",
    Desk: "claim_of(label) do(command) do_all(*commands) attempt(*commands) attach(label, paper) fits(label) lines()"
          " copy() again(lines)",
}
OPERATORS = {
    Ratio: "__init__ __add__ __radd__ __sub__ __rsub__ __mul__ __rmul__ __neg__ __eq__ __str__ __repr__",
    Line: "__init__ __eq__", Book: "__init__ __eq__", Course: "__init__ __eq__",
    Desk: "__init__ __len__ __getitem__ __contains__ __call__", Trial: "__init__ __enter__ __exit__",
}
PROPERTIES = {Ratio: "top bottom sign is_whole", Line: "letters", Book: "functions", Course: "period degree",
              Desk: "names labels"}


def signatures(text):
    return [one if one.endswith(")") else f"{one})" for one in text.split(") ")]


class Interface(unittest.TestCase):
    def test_functions(self):
        for name, text in FUNCTIONS.items():
            module = importlib.import_module(f"soughtrows.{name}")
            for one in signatures(text):
                made = getattr(module, one.partition("(")[0])
                self.assertEqual(f"{made.__name__}{inspect.signature(made)}", one)
                self.assertEqual(made.__module__, module.__name__)

    def test_methods(self):
        for made, text in METHODS.items():
            for one in signatures(text):
                name, _, parameters = one.partition("(")
                self.assertIn(name, vars(made))
                told = str(inspect.signature(getattr(made, name))).removeprefix("(self, ").removeprefix("(self")
                self.assertEqual(told.removeprefix("("), parameters)
        for made, text in OPERATORS.items():
            self.assertLessEqual(set(text.split()), set(vars(made)))
        for made, text in PROPERTIES.items():
            for name in text.split():
                self.assertIsInstance(vars(made)[name], property)


class Overview(unittest.TestCase):
    def test_example(self):
        """f(2x + y) = f(2x) + f(y) is kept by n and by what is 1 at odd numbers; f(x + y) = f(x) + f(y) breaks."""
        self.assertIs(is_space(STAMPS, ([NOUGHT], [[SAME], [ODD]])), True)
        self.assertIs(follows(STAMPS, Line(2, [(1, 0, [4, 1, 0]), (-2, 0, [2, 0, 0]), (-1, 0, [0, 1, 0])], [])), True)
        self.assertIs(follows(STAMPS, SUMS), False)
        filling, place = break_by(STAMPS, SUMS)
        self.assertEqual(place, [1, 1])
        self.assertIs(is_paper_of(("breaks", STAMPS, SUMS), (filling, [1, 1])), True)
        self.assertIsNone(shown(STAMPS, SUMS, [1, 1]))
        self.assertEqual(shown(STAMPS, SUMS, [2, 1]) is None, False)

    def test_tariff(self):
        self.assertIs(is_space(ADDING, ([NOUGHT], [[SAME]])), True)
        self.assertEqual([plain_dimension(STAMPS), plain_dimension(ADDING)], [1, 1])


class Guarantees(unittest.TestCase):
    """[4], for each of some books: what is told agrees with one another."""

    BOOKS = [ADDING, STAMPS, SPLIT, Book(1, [SQUARES]), Book(1, [middles(3)]), Book(1, [differences(2, 4)]),
             Book(2, [repeating(3), ODDS, repeating(4, 1)]), Book(1, [SUMS, told(0, 2, 1)])]

    def test_one_space(self):
        for book in self.BOOKS + small_books(41, 20):
            if is_kept(book):
                self.assertIs(is_space(book, space(book)), True)
                self.assertIsNone(none_blend(book))
            else:
                values, number = said(book, none_blend(book))
                self.assertEqual((values, number.sign != 0), ([], True))

    def test_follows_or_breaks(self):
        for book in self.BOOKS:
            for line in [told(0, 0, 0), told(0, 1, 1), Line(1, [(1, 0, [1, 0]), (1, 0, [-1, 0])], []), SUMS]:
                found = break_by(book, line)
                self.assertIs(follows(book, line), found is None)
                place = [1] * line.letters if found is None else found[1]
                blend = shown(book, line, place)
                self.assertIs(blend is None, found is not None)
                if found is None:
                    self.assertEqual(said(book, blend), instance(line, place))

    def test_settled_or_open(self):
        for book in self.BOOKS:
            spots = least_spots(book)
            for at in range(len(spots) + 1):
                pair = twins(book, spots[:at])
                self.assertIs(pair is None, at == dimension(book))
                values = [(*spot, Ratio(7, 3)) for spot in spots[:at]]
                if pair is None:
                    self.assertIsNotNone(forced(book, values, 0, 11))
                self.assertIsNone(clash(book, values))

    def test_fractions(self):
        for book in self.BOOKS:
            found = plain_space(book)
            if found is not None:
                self.assertTrue(all(course.period == 1 for filling in [found[0], *found[1]] for course in filling))
                self.assertLessEqual(len(found[1]), dimension(book))


class Open(unittest.TestCase):
    """What is OPEN keeps within the bounds, is new each time, and equal each time."""

    def check(self, function, *passed):
        found, again = function(*passed), function(*passed)
        self.assertEqual(found, again)
        self.assertEqual(function(*[as_tuples(one) for one in passed]), found)
        check_new(self, found, again)
        for part in lists_in(found):
            self.assertLessEqual(len(part), 400)
        for word in as_words(found).replace("(", " ").replace(")", " ").replace(",", " ").split():
            self.assertLess(len(word), 2000)

    def test_books(self):
        books = Guarantees.BOOKS + [Book(1, [middles(12)]), Book(1, [differences(4, 3)])]
        for book in books:
            self.check(space, book)
            self.check(plain_space, book)
            self.check(sheets, book, 0)
            self.check(least_spots, book)
            self.check(twins, book, [(0, 1)])
            self.check(first_free, book, [(0, 10 ** 20), (0, 5), (0, 7)])
            self.check(through, book, [(0, 10, Ratio(1, 999999))])
            self.check(clash, book, [(0, k, 999999 * k * k * k * k) for k in range(40)])
            self.check(forced, book, [], 0, 10 ** 29)
            self.check(ties, book, 1, [(0, [1, 0]), (0, [99, 99]), (0, [-99, 5]), (0, [1, 1])])
            self.check(break_by, book, Line(2, [(1, 0, [97, 89, 5]), (Ratio(1, 7), 0, [1, 1, 0])], [(1, [3, 0])]))
            self.check(stray, book, 0, 7)
            for word, more in [("held", [0]), ("kept", []), ("breaks", [SUMS]), ("open", [[(0, 1)]])]:
                self.check(paper_of, (word, book, *more))


if __name__ == "__main__":
    unittest.main()
