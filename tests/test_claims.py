"""[93] and [94]: claims, their contraries, and papers."""

import random
import unittest

from brute import small_books
from helpers import (
    as_tuples, as_words, check_bare, check_new, check_too_many, check_value, lists_in, not_lists, other_things,
    unchanged,
)
from known import (
    ADDING, NOUGHT, ODD, ODDS, SAME, SPLIT, SQUARES, STAMPS, SUMS, bracket, differences, is_kept_near, line_worth,
    middles, random_line, repeating, told, wrong_books, wrong_fillings, wrong_functions, wrong_lines, wrong_places,
)
from soughtrows.books import Book, said
from soughtrows.claims import contrary, is_claim, is_paper_of, is_true, paper_of, words
from soughtrows.courses import Course
from soughtrows.errors import InvalidClaim, NobodyKeeps, NotHeld
from soughtrows.follows import follows
from soughtrows.kept import keeps_book, look
from soughtrows.lines import Line
from soughtrows.lots import settles
from soughtrows.ratios import Ratio
from soughtrows.sheets import is_held, sheets
from soughtrows.spaces import is_kept

PAIRS = [("held", "loose"), ("kept", "nobody"), ("follows", "breaks"), ("keeps", "misses"), ("settles", "open")]
NONE = Book(1, [SUMS, told(0, 0, 1)])
LOOSE = Book(1, [bracket(2, 0)])
ZERO = told(0, 0, 0)
PARITY = Book(1, [bracket(2, 0), bracket(2, 1, [(-1, [0])])])
LONG = Course([[k, 1] for k in range(60)])

# Claims, whether they are true, and whether they have a paper then.
CLAIMS = [
    (("held", ADDING, 0), True), (("held", Book(2, [SUMS]), 1), False), (("held", PARITY, 0), True),
    (("held", LOOSE, 0), False), (("held", SPLIT, 2), True), (("held", Book(1, []), 0), False),
    (("kept", ADDING), True), (("kept", NONE), False), (("kept", PARITY), True), (("kept", Book(3, SPLIT.lines())), True),
    (("follows", ADDING, ZERO), True), (("follows", ADDING, told(0, 1, 1)), False), (("follows", STAMPS, SUMS), False),
    (("follows", STAMPS, told(0, 0, 0)), True), (("follows", SPLIT, Line(0, [], [])), True),
    (("follows", SPLIT, Line(0, [], [(1, [])])), False),
    (("keeps", ADDING, [Course([[0, 5]])]), True), (("keeps", ADDING, [ODD]), False), (("keeps", LOOSE, [SAME]), False),
    (("keeps", LOOSE, [ODD]), True), (("keeps", NONE, [SAME]), False), (("keeps", SPLIT, [SAME, SAME, SAME]), True),
    (("settles", ADDING, [(0, 3)]), True), (("settles", ADDING, [(0, 0)]), False), (("settles", STAMPS, []), False),
    (("settles", SPLIT, [(0, 1), (1, 1), (2, 1)]), True), (("settles", STAMPS, [(0, 2), (0, 4)]), False),
]
WITH_PAPERS = ("held", "kept", "nobody", "breaks", "misses", "open")


def other(word):
    return {**dict(PAIRS), **{two: one for one, two in PAIRS}}[word]


class IsClaim(unittest.TestCase):
    def test_right(self):
        for claim, _ in CLAIMS:
            for word in [claim[0], other(claim[0])]:
                self.assertIs(unchanged(self, is_claim, (word, *claim[1:])), True)
        self.assertIs(is_claim(("keeps", ADDING, (SAME,))), True)
        self.assertIs(is_claim(("settles", ADDING, ((0, 1), (0, 2)))), True)
        self.assertIs(is_claim(("settles", ADDING, [(0, k) for k in range(40)])), True)
        self.assertIs(is_claim(value=("kept", LOOSE)), True)

    def test_nothing_is_decided(self):
        for word, more in [("held", [0]), ("kept", []), ("follows", [SUMS]), ("keeps", [[LONG]]), ("open", [[(0, 1)]])]:
            for book in [LOOSE, NONE, Book(1, [])]:
                self.assertIs(is_claim((word, book, *more)), True)

    def test_words(self):
        self.assertEqual(words(), PAIRS)
        self.assertIsInstance(words(), list)
        words().clear()
        self.assertEqual(len(words()), 5)

    def wrong(self):
        found = not_lists() + [[], (), ("held",), ("kept",), "kept", [("kept", ADDING)], (("kept", ADDING),)]
        for claim, _ in CLAIMS:
            found += [list(claim), claim[:-1], (*claim, 0), (*claim, None), (*claim, []), claim[1:], (None, *claim[1:])]
            for word in ["", "Held", "held ", "hold", b"held", None, 0, ["held"], ("held",)]:
                found.append((word, *claim[1:]))
            found += [(claim[0], book, *claim[2:]) for book in wrong_books()]
        for word, parts in [("held", wrong_functions(1)), ("follows", wrong_lines() + [told(1, 0, 0), SPLIT.lines()[0]]),
                            ("keeps", wrong_fillings(1)), ("settles", self.wrong_spots())]:
            found += [(one, ADDING, part) for one in [word, other(word)] for part in parts]
        found += [(one, ADDING, part) for one in ["kept", "nobody"] for part in [0, None, [], SUMS]]
        return found

    def wrong_spots(self):
        return not_lists() + [(0, 1), [[0, 1]], [(0, 1), (0, 1)], [(0, k) for k in range(41)], [(1, 0)], [(True, 0)],
                              [(0, True)], [(0, 1, 2)], [(0,)], [(0, Ratio(1))], [None], "ab", [(Ratio(0), 1)]]

    def test_any_value(self):
        for value in self.wrong():
            with self.subTest(value=value):
                self.assertIs(is_claim(value), False)
                check_value(self, InvalidClaim, value, is_true, value)
                check_value(self, InvalidClaim, value, contrary, value)
                check_value(self, InvalidClaim, value, paper_of, value)
                check_value(self, InvalidClaim, value, is_paper_of, value, None)
                check_value(self, InvalidClaim, value, is_paper_of, claim=value, value=[])
        check_value(self, InvalidClaim, None, is_true, claim=None)
        check_value(self, InvalidClaim, None, contrary, claim=None)
        check_value(self, InvalidClaim, None, paper_of, claim=None)


class Contrary(unittest.TestCase):
    def test_contrary(self):
        for claim, _ in CLAIMS:
            for one in [claim, (other(claim[0]), *claim[1:])]:
                for passed in [one, (*one[:2], *[as_tuples(part) for part in one[2:]])]:
                    found = unchanged(self, contrary, passed)
                    self.assertEqual(found, (other(passed[0]), *passed[1:]))
                    self.assertEqual(as_words(found[1:]), as_words(passed[1:]))
                    self.assertIs(is_claim(found), True)
                    self.assertEqual(contrary(found), passed)
                    self.assertEqual(as_words(contrary(found)), as_words(passed))
                    check_new(self, passed, found, contrary(passed), contrary(found))
        self.assertEqual(contrary(claim=("held", ADDING, 0)), ("loose", ADDING, 0))


class IsTrue(unittest.TestCase):
    def test_known(self):
        for claim, wanted in CLAIMS:
            with self.subTest(claim=claim):
                if claim[0] in ("follows", "settles"):
                    self.assertIs(is_kept(claim[1]), True)
                self.assertIs(unchanged(self, is_true, claim), wanted)
                self.assertIs(is_true(contrary(claim)), not wanted)
                self.assertIs(is_true(as_tuples(claim)), wanted)
        self.assertIs(is_true(claim=("kept", ADDING)), True)

    def test_random(self):
        draw = random.Random(93)
        for book in small_books(930, 40):
            self.assertIs(is_true(("kept", book)), is_kept(book))
            for function in range(book.functions):
                self.assertIs(is_true(("loose", book, function)), not is_held(book, function))
            if is_kept(book):
                line = random_line(draw, book.functions)
                self.assertIs(is_true(("follows", book, line)), follows(book, line))
                spots = [(draw.randrange(book.functions), k) for k in range(-2, 3)]
                self.assertIs(is_true(("settles", book, spots)), settles(book, spots))
            filling = [draw.choice([NOUGHT, SAME, ODD]) for _ in range(book.functions)]
            self.assertIs(is_true(("keeps", book, filling)), keeps_book(book, filling))

    def test_states(self):
        for book in [LOOSE, Book(1, []), Book(2, [SUMS, told(0, 0, 1)])]:
            for claim in [("kept", book), ("nobody", book), ("follows", book, SUMS), ("breaks", book, SUMS),
                          ("settles", book, [(0, 1)]), ("open", book, [(0, 1)])]:
                check_bare(self, NotHeld, is_true, claim)
                if claim[0] in WITH_PAPERS:
                    check_bare(self, NotHeld, paper_of, claim)
                else:
                    self.assertIsNone(paper_of(claim))
        for claim in [("follows", NONE, SUMS), ("breaks", NONE, SUMS), ("settles", NONE, []), ("open", NONE, [])]:
            check_bare(self, NobodyKeeps, is_true, claim)
            if claim[0] in WITH_PAPERS:
                check_bare(self, NobodyKeeps, paper_of, claim)
            else:
                self.assertIsNone(paper_of(claim))

    def test_too_many_places(self):
        for word in ["keeps", "misses"]:
            check_too_many(self, "places", 2000, is_true, (word, ADDING, [LONG]))
        check_too_many(self, "places", 2000, paper_of, ("misses", ADDING, [LONG]))
        check_too_many(self, "places", 2000, is_true, ("keeps", Book(1, [told(0, 0, 5), SUMS]), [LONG]))
        self.assertIsNone(paper_of(("keeps", ADDING, [LONG])))
        self.assertIs(is_true(("keeps", Book(1, [told(0, 0, 5)]), [LONG])), False)
        course = Course([[0, 0, 0, 1], [0], [0], [0], [0], [0], [0], [1], [0], [0], [0], [0], [0], [0]])
        self.assertEqual(course.period, 14)
        self.assertIs(is_true(("misses", ADDING, [course])), True)


class Papers(unittest.TestCase):
    def check(self, claim, wanted):
        """A claim has a paper just if it is true and of a kind that has some."""
        found = unchanged(self, paper_of, claim)
        if claim[0] not in WITH_PAPERS or not wanted:
            self.assertIsNone(found)
            return None
        self.assertIs(unchanged(self, is_paper_of, claim, found), True)
        self.assertIs(is_paper_of(as_tuples(claim), as_tuples(found)), True)
        self.assertIs(is_paper_of(contrary(claim), found), False)
        self.check_paper(claim, found)
        self.assertEqual(paper_of(claim), found)
        check_new(self, found, paper_of(claim), claim)
        for part in lists_in(found):
            self.assertLessEqual(len(part), 400)
        return found

    def check_paper(self, claim, paper):
        """What the table tells, seen here."""
        word, book, *parts = claim
        if word == "held":
            self.assertIsInstance(paper, list)
        if word == "kept":
            self.check_filling(book, paper)
        if word == "nobody":
            values, number = said(book, paper)
            self.assertEqual((values, number == Ratio(0)), ([], False))
        if word == "breaks":
            self.check_filling(book, paper[0])
            self.assertNotEqual(line_worth(parts[0], lambda f, n: paper[0][f].at(n), paper[1]), Ratio(0))
        if word == "misses":
            line = book.lines()[paper[0]]
            self.assertNotEqual(line_worth(line, lambda f, n: parts[0][f].at(n), paper[1]), Ratio(0))
        if word == "open":
            self.assertNotEqual(paper[0], paper[1])
            for filling in paper:
                self.check_filling(book, filling)
            self.assertTrue(all(paper[0][f].at(n) == paper[1][f].at(n) for f, n in parts[0]))

    def check_filling(self, book, filling):
        self.assertIs(type(filling), list)
        self.assertTrue(is_kept_near(book.lines(), lambda f, n: filling[f].at(n), 3))

    def test_known(self):
        for claim, wanted in CLAIMS:
            with self.subTest(claim=claim):
                self.check(claim, wanted)
                self.check(contrary(claim), not wanted)
        self.assertIsNone(paper_of(claim=("loose", LOOSE, 0)))
        self.assertIs(is_paper_of(claim=("kept", ADDING), value=[SAME]), True)

    def test_random(self):
        draw = random.Random(94)
        seen = {}
        for book in small_books(940, 60):
            claims = [("held", book, 0), ("kept", book)]
            claims.append(("keeps", book, [draw.choice([NOUGHT, SAME, ODD]) for _ in range(book.functions)]))
            if is_kept(book):
                claims.append(("follows", book, random_line(draw, book.functions)))
                claims.append(("settles", book, sorted({(0, draw.randint(-4, 4)) for _ in range(3)})))
            for claim in claims:
                wanted = is_true(claim)
                for one, is_so in [(claim, wanted), (contrary(claim), not wanted)]:
                    self.check(one, is_so)
                    seen[one[0], is_so] = seen.get((one[0], is_so), 0) + 1
        for word in WITH_PAPERS:
            self.assertGreater(seen[word, True], 5)

    def test_any_value(self):
        wrong = not_lists() + [[], (), [[]], ([], []), [None], (None, None), [SAME, SAME], (0,), (0, [0, 0], 0), "ab"]
        for claim, _ in CLAIMS:
            for one in [claim, contrary(claim)]:
                for value in wrong:
                    self.assertIs(is_paper_of(one, value), False)


class Bent(unittest.TestCase):
    """Papers bent in one thing."""

    def check(self, claim, values, wanted):
        for value in values:
            with self.subTest(claim=claim, value=value):
                self.assertIs(unchanged(self, is_paper_of, claim, value), wanted)
                if claim[0] not in ("loose", "follows", "keeps", "settles"):
                    self.assertIs(is_paper_of(contrary(claim), value), False)

    def test_held(self):
        whole = sheets(ADDING, 0)
        sheet = whole[0]
        self.check(("held", ADDING, 0), [whole, tuple(whole), whole * 48, whole * 2], True)
        self.check(("held", ADDING, 0), [[], whole * 49, sheet, [list(sheet)], [(*sheet, 0)], [sheet[:2]], [None],
                                         [*whole, None], {0: sheet}, [(True, *sheet[1:])]], False)
        even, odd = (0, 0, [[1]]), (1, 0, [[1]])
        self.check(("held", PARITY, 0), [[even, odd], [odd, even], ((0, 0, ((5,),)), odd), [even, odd, even],
                                         [(0, 0, [[1], [2], [-3], [4], [5]]), odd]], True)
        self.check(("held", PARITY, 0), [[even], [odd], [even, even], [even, (1, 0, [[0]])], [even, (2, 0, [[1]])],
                                         [even, (0, 1, [[1]])], [even, odd, None]], False)

    def test_held_by_good_terms_alone(self):
        line = repeating(13)
        book = Book(1, [line, repeating(4)])
        self.assertIs(is_held(book, 0), True)
        far = [(0, position, [[1, 13 * k] if k else [1, 0], [0, 1]]) for position in range(2) for k in [0, 1]]
        for sheet in far:
            self.check(("held", book, 0), [[sheet]], False)
        self.check(("held", Book(1, [line]), 0), [[sheet] for sheet in far], False)
        two = Book(2, [SUMS, *Book(2, [Line(2, [(1, 1, [1, 1, 0]), (-1, 1, [1, 0, 0])], [])]).lines()])
        self.check(("held", two, 1), [sheets(two, 1)], True)
        self.check(("held", two, 1), [sheets(two, 0)], False)

    def test_kept(self):
        self.check(("kept", ADDING), [[SAME], (SAME,), [NOUGHT], [Course([[0, Ratio(-7, 3)]])]], True)
        self.check(("kept", ADDING), [[ODD], [SAME, SAME], SAME, [Course([[1, 1]])], [[0, 1]], [None], [LONG]], False)
        self.check(("kept", SPLIT), [[SAME, SAME, SAME], (Course([[3, 1]]), Course([[1, 1]]), Course([[2, 1]]))], True)
        self.check(("kept", SPLIT), [[SAME, SAME], [SAME] * 4, [SAME, SAME, NOUGHT]], False)

    def test_looks_of_too_many_places(self):
        book = Book(1, [repeating(60)])
        far = Course([[k] for k in range(60)])
        self.check(("kept", book), [[far]], False)
        self.check(("kept", Book(1, [told(0, 7, 7)])), [[far]], True)
        self.check(("kept", Book(1, [told(0, 7, 7), Line(1, [(1, 0, [60, 7])], [(-7, [0])])])), [[far]], True)
        self.check(("kept", Book(1, [repeating(44)])), [[Course([[k] for k in range(44)])]], True)
        self.check(("kept", Book(1, [repeating(45)])), [[Course([[k] for k in range(45)])]], False)
        just = [Course([[0, 0, 0, 0, 1]] + [[0]] * 24), Course([[0]] * 15 + [[1]])]
        two = Book(2, [Line(1, [(1, 0, [25, 1]), (1, 1, [16, 1])], [])])
        self.assertEqual(look(two.lines()[0], just), 2000)
        self.check(("kept", two), [just], True)
        line = told(0, 7, 8)
        self.check(("breaks", Book(1, [told(0, 7, 7)]), line), [([far], [])], True)
        self.check(("breaks", book, line), [([far], [])], False)
        two = Course([[k] for k in range(59)] + [[0]])
        self.check(("open", Book(1, [told(0, 7, 7)]), [(0, 5)]), [([far], [two]), ([two], [far])], True)
        self.check(("open", Book(1, [repeating(60)]), [(0, 5)]), [([far], [two]), ([two], [far])], False)
        # The claim's own filling may have any look: one place is put in alone.
        self.check(("misses", book, [Course([[0, 1], *[[1]] * 59])]), [(0, [1, 0])], True)

    def test_nobody(self):
        self.check(("nobody", NONE), [[(1, 0, [0, 0]), (1, 1, [])], ((1, 0, (0, 0)), (1, 1, ())),
                                      [(2, 0, [0, 0]), (1, 1, []), (Ratio(2, 2), 1, []), (0, 0, [5, 5])]], True)
        self.check(("nobody", NONE), [[(1, 0, [0, 0])], [(1, 0, [0, 0]), (2, 1, [])], [(0, 0, [0, 0]), (0, 1, [])], [],
                                      [(1, 0, [0, 0]), (1, 1, [0])], [(1, 0, [0, 0]), (True, 1, [])],
                                      [[1, 0, [0, 0]], (1, 1, [])]], False)
        self.check(("nobody", Book(1, [Line(0, [], [(1, [])])])), [[(1, 0, [])]], True)

    def test_breaks(self):
        claim = ("breaks", STAMPS, SUMS)
        self.check(claim, [([ODD], [1, 1]), ((ODD,), (1, 1)), ([ODD], [3, -5])], True)
        self.check(claim, [[[ODD], [1, 1]], ([ODD], [1, 0]), ([ODD], [1]), ([ODD], [1, 1, 1]), ([ODD], [1, True]),
                           ([ODD], [Ratio(1), 1]), ([ODD], None), ([ODD], [1, 1], 0), ([ODD],), (ODD, [1, 1]),
                           ([Course([[1], [0]])], [1, 1]), ([SAME], [1, 1]), ([ODD, ODD], [1, 1]), ([1, 1], [ODD])], False)
        for place in wrong_places(2):
            self.assertIs(is_paper_of(claim, ([ODD], place)), False)
        self.check(("breaks", LOOSE, SUMS), [([ODD], [1, 1])], True)
        self.check(("breaks", NONE, SUMS), [([ODD], [1, 1]), ([SAME], [1, 1])], False)
        self.check(("follows", STAMPS, SUMS), [([ODD], [1, 1])], False)

    def test_misses(self):
        claim = ("misses", Book(1, [ODDS, SUMS, told(0, 0, 0)]), [ODD])
        self.check(claim, [(1, [1, 1]), (1, (1, 1)), (1, [-3, 7])], True)
        self.check(claim, [(0, [1, 1]), (1, [1, 0]), (2, []), (3, []), (-1, []), (True, [1, 1]), (1, [1]), [1, [1, 1]],
                           (Ratio(1), [1, 1]), (1,), (1, [1, 1], 0), ([1, 1], 1), (None, None), (1, None)], False)
        self.check(("keeps", *claim[1:]), [(1, [1, 1])], False)

    def test_open(self):
        claim = ("open", STAMPS, [(0, 2), (0, 4)])
        self.check(claim, [([NOUGHT], [ODD]), ((ODD,), [NOUGHT]), ([SAME], [Course([[0, 1], [5, 1]])])], True)
        self.check(claim, [([NOUGHT], [NOUGHT]), ([NOUGHT], (NOUGHT,)), ([NOUGHT], [SAME]), [[NOUGHT], [ODD]], ([NOUGHT],),
                           ([NOUGHT], [ODD], [ODD]), (NOUGHT, ODD), ([NOUGHT], None), ([NOUGHT, NOUGHT], [ODD, ODD]),
                           ([NOUGHT], [Course([[0], [0, 1]])]), ([NOUGHT], [Course([[], [1], [], [2]])]),
                           ([Course([[], [1, 1]])], [NOUGHT])], False)
        self.check(("settles", *claim[1:]), [([NOUGHT], [ODD])], False)
        self.check(("open", LOOSE, [(0, 2)]), [([ODD], [NOUGHT])], True)
        self.check(("open", SPLIT, [(0, 0)]), [([NOUGHT] * 3, [NOUGHT, Course([[1]]), Course([[-1]])])], True)

    def test_equal_fillings_of_unlike_kinds_are_one(self):
        self.check(("open", ADDING, []), [([Course([[0, 1], [0, 1]])], (SAME,))], False)

    def test_without_papers(self):
        for claim in [("loose", LOOSE, 0), ("follows", ADDING, ZERO), ("keeps", ADDING, [SAME]), ("settles", ADDING, [(0, 1)])]:
            self.assertIs(is_true(claim), True)
            for value in [None, [], (), [SAME], [(0, 0, [[1]])], (0, [0, 0]), ([SAME], [1, 1]), ([SAME], [NOUGHT]), True]:
                self.assertIs(is_paper_of(claim, value), False)

    def test_one_thing_bent(self):
        books = [ADDING, STAMPS, SPLIT, Book(1, [SQUARES]), Book(1, [middles(2)]), Book(1, [differences(2, 3)])]
        for book in books:
            paper = paper_of(("open", book, [(0, 1)]))
            if paper is not None:
                shifted = [Course([[1]]) if k == 0 else NOUGHT for k in range(book.functions)]
                for value in [(paper[0], paper[0]), (paper[0],), [*paper], (paper[1], shifted), (paper[0], paper[1][:-1])]:
                    if value[-1] != shifted or not keeps_book(book, shifted):
                        self.assertIs(is_paper_of(("open", book, [(0, 1)]), value), False)
        for value in other_things():
            self.assertIs(is_paper_of(("open", ADDING, []), ([SAME], [value])), False)


if __name__ == "__main__":
    unittest.main()
