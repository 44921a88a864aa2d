"""[98]: what each command of a desk does and answers, and what it is refused by, in the sequence of the interface."""

import unittest

from helpers import as_words
from known import ADDING, NOUGHT, ODD, ODDS, SAME, SQUARES, STAMPS, SUMS, differences, told
from soughtrows.books import Book, renamed, with_line, without_line
from soughtrows.courses import Course, led
from soughtrows.desk import Desk
from soughtrows.errors import (
    InvalidArgument, InvalidClaim, InvalidCommand, InvalidFilling, InvalidFunction, InvalidFunctions, InvalidLetters,
    InvalidLine, InvalidLines, InvalidMany, InvalidMore, InvalidOrder, InvalidParts, InvalidPlace, InvalidPosition,
    InvalidPuts, InvalidRest, InvalidSpots, InvalidTerms, InvalidValues, LabelTaken, NameTaken, NobodyKeeps,
    NoneHasThem, NotHeld, TooMany, UnknownLabel, UnknownName, UnlikeFunctions, UnlikeLetters,
)
from soughtrows.lines import Line, plus, put, times
from soughtrows.ratios import Ratio

START = ["sums s", "line z 0 1:0:1 -3:-", "line u 1 1:1:1,0 none", "book b 1 s", "book e 2 s", "course n 0,1",
         "course o -;1", "spots p 0:2;0:4", "values v 0:2:6", "line y 0 1:0:0 -1:-", "book x 1 s,z,y", "drop y"]
STAMP = ["line t 2 1:0:2,1,0;-1:0:2,0,0;-1:0:0,1,0 none", "book c 1 t"]
HALF = Ratio(1, 2)
Z = told(0, 1, 3)
U = Line(1, [(1, 1, [1, 0])], [])
NONE = Book(1, [SUMS, Z, told(0, 0, 1)])


def started(*more):
    desk = Desk()
    desk.do_all(*START, *more)
    return desk


class Deeds(unittest.TestCase):
    """Deeds that keep things: the thing afterwards, and a number of terms and the like that it was made with."""

    def check(self, command, name, thing, *more):
        desk = started(*more)
        self.assertEqual(desk.do(command), "-")
        self.assertEqual(desk[name], thing)
        self.assertEqual(as_words(desk[name]), as_words(thing))
        self.assertEqual(desk.lines()[-1], command)
        return desk

    def test_lines(self):
        self.check("line q 0 none none", "q", Line(0, [], []))
        self.check("line q 1 1/2:1:-1,3;2:0:1,0;0:0:5,5 1:3;-2/3:0;0:1", "q",
                   Line(1, [(HALF, 1, [-1, 3]), (2, 0, [1, 0])], [(1, [3]), (Ratio(-2, 3), [0])]))
        self.check("line q 3 1:2:1,2,3,4 1:1,1,1", "q", Line(3, [(1, 2, [1, 2, 3, 4])], [(1, [1, 1, 1])]))
        self.check("line q 0 1:0:-5 2:-;3:-", "q", Line(0, [(1, 0, [-5])], [(5, [])]))
        self.check("sums q", "q", SUMS)
        self.check("steps q 3 5", "q", differences(3, 5))
        self.check("plus q s t", "q", plus(SUMS, ODDS), STAMP[0])
        self.check("plus q s s", "q", times(SUMS, 2))
        self.check("times q s -3/7", "q", times(SUMS, Ratio(-3, 7)))
        self.check("times q s 0", "q", Line(2, [], []))
        self.check("put q s 1 1,2;-1,0", "q", put(SUMS, 1, [[1, 2], [-1, 0]]))
        self.check("put q z 3 none", "q", put(Z, 3, []))
        self.check("put q s 0 1;2", "q", put(SUMS, 0, [[1], [2]]))

    def test_books(self):
        self.check("book q 1 -", "q", Book(1, []))
        self.check("book q 3 s,z,s,u", "q", Book(3, [SUMS, Z, SUMS, U]))
        self.check("book q 1 s,t,z,s,t,z", "q", Book(1, [SUMS, ODDS, Z] * 2), STAMP[0])
        self.check("add b z", "b", with_line(ADDING, Z))
        self.check("add e u", "e", Book(2, [SUMS, U]))
        self.check("strike b 0", "b", without_line(ADDING, 0))
        self.check("exchange e 1,0", "e", renamed(Book(2, [SUMS]), [1, 0]))
        self.check("exchange b 0", "b", ADDING)

    def test_courses_and_lists(self):
        self.check("course q -", "q", NOUGHT)
        self.check("course q 0,1;0,1", "q", SAME)
        self.check("course q -1/2,3;-;5,0", "q", Course([[Ratio(-1, 2), 3], [], [5]]))
        self.check("both q n o", "q", Course([[0, 1], [1, 1]]))
        self.check("both q o o", "q", Course([[], [2]]))
        self.check("led q n -3 7", "q", led(SAME, -3, 7))
        self.check("led q o 0 1", "q", Course([[1]]))
        self.check("spots q none", "q", [])
        self.check("spots q 2:-5;0:0;2:-5;17:3", "q", [(2, -5), (0, 0), (2, -5), (17, 3)])
        self.check("values q none", "q", [])
        self.check("values q 1:-5:1/2;0:0:3;0:0:3", "q", [(1, -5, HALF), (0, 0, Ratio(3)), (0, 0, Ratio(3))])
        self.check("spots q " + ";".join(["0:1"] * 60), "q", [(0, 1)] * 60)

    def test_copy_and_drop(self):
        for name in ["s", "b", "n", "p", "v"]:
            desk = self.check(f"copy q {name}", "q", started()[name])
            self.assertEqual(desk.do(f"same q {name}"), "yes")
            self.assertEqual(desk.do(f"drop {name}"), "-")
            self.assertIs(name in desk, False)
            self.assertIs("q" in desk, True)
        desk = started("drop v", "spots q none", "copy r q", "values w none")
        self.assertEqual([desk.do("rank b q"), desk.do("rank b r")], ["0", "0"])
        with self.assertRaises(UnknownName):
            desk.do("forced b r 0 0")
        self.assertEqual(desk.do("forced b w 0 0"), "0")


class Claims(unittest.TestCase):
    def test_right(self):
        for words, claim, state in [
                ("held b 0", ("held", ADDING, 0), "true"), ("loose e 1", ("loose", Book(2, [SUMS]), 1), "true"),
                ("kept b", ("kept", ADDING), "true"), ("nobody x", ("nobody", Book(1, [SUMS, Z, told(0, 0, 1)])), "true"),
                ("follows b z", ("follows", ADDING, Z), "false"), ("breaks c s", ("breaks", STAMPS, SUMS), "true"),
                ("keeps e n,o", ("keeps", Book(2, [SUMS]), [SAME, ODD]), "true"),
                ("misses b n", ("misses", ADDING, [SAME]), "false"),
                ("settles b p", ("settles", ADDING, [(0, 2), (0, 4)]), "true"),
                ("open b p", ("open", ADDING, [(0, 2), (0, 4)]), "false")]:
            desk = started(*STAMP)
            self.assertEqual(desk.do(f"claim k {words}"), f"k {state}")
            self.assertEqual(desk.claim_of("k"), claim)
            self.assertEqual([desk.do("claimed k"), desk.do("state k"), desk.do("states")], [words, state, f"k {state}"])
            self.assertEqual(desk.do("forget k"), "-")
            self.assertEqual(desk.labels, [])


class Others(unittest.TestCase):
    def test_answers(self):
        desk = started(*STAMP, "drop e", "drop u", "line w 3 1/2:2:1,2,3,-4;5:0:0,0,0,1 1:1,1,1;-2/3:0,0,0",
                       "course a -1/2,3;-;5")
        before = [desk.lines(), desk.names, desk.do("states")]
        for command, answer in [
                ("names", "a b c n o p s t v w x z"), ("states", "-"),
                ("show s", "2 -1:0:0,1,0;-1:0:1,0,0;1:0:1,1,0 none"), ("show z", "0 1:0:1 -3:-"),
                ("show w", "3 5:0:0,0,0,1;1/2:2:1,2,3,-4 -2/3:0,0,0;1:1,1,1"), 
                ("show b", "1 | 2 -1:0:0,1,0;-1:0:1,0,0;1:0:1,1,0 none"),
                ("show x", "1 | 2 -1:0:0,1,0;-1:0:1,0,0;1:0:1,1,0 none | 0 1:0:1 -3:- | 0 1:0:0 -1:-"),
                ("show n", "0,1"), ("show o", "-;1"), ("show a", "-1/2,3;-;5"), ("show p", "0:2;0:4"), ("show v", "0:2:6"),
                ("same s s", "yes"), ("same s t", "no"), ("same b c", "no"), ("same n n", "yes"), ("same p p", "yes"),
                ("says s 1,2", "0:1:-1;0:2:-1;0:3:1 0"), ("says s 0,0", "0:0:-1 0"), ("says z -", "0:1:1 -3"),
                ("says w 1,1,1", "0:1:5;2:2:1/2 1/3"),
                ("worth s n 4,5", "0"), ("worth s o 1,1", "-2"), ("worth z a -", "-3"), ("worth w n,n,a 1,0,0", "-5/12"),
                ("worth s n,o,a 1,2", "0"), ("at n -3", "-3"), ("at o 7", "1"), ("at a 0", "-1/2"),
                ("at n " + "9" * 30, "9" * 30),
                ("loose b", "-"), ("needless b", "-"), ("needless c", "-"), ("room b", "2"), ("room c", "4"),
                ("dimension b", "1"), ("dimension c", "2"), ("period c", "2"), ("degree c", "1"), ("degree b", "1"),
                ("alike b b", "yes"), ("alike b c", "no"), ("forced b v 0 -7", "-21"), ("forced b v 0 0", "0"),
                ("forced c v 0 1", "open"), ("rank b p", "1"), ("rank c p", "1"), ("free b p", "0:2"), ("free c p", "0:2")]:
            with self.subTest(command=command):
                self.assertEqual(desk.do(command), answer)
                self.assertEqual(desk(command), answer)
        self.assertEqual([desk.lines(), desk.names, desk.do("states")], before)

    def test_more_answers(self):
        desk = started("drop o", "drop p", "drop v", "book q 1 s,s")
        self.assertEqual([desk.do("needless q"), desk.do("names")], ["0,1", "b e n q s u x z"])
        self.assertEqual([desk.do("show u"), desk.do("says u -5"), desk.do("loose e")], ["1 1:1:1,0 none", "1:-5:1 0", "1"])
        desk.do_all("spots p none", "values v none", "line r 0 none none", "book g 2 -")
        self.assertEqual([desk.do("show p"), desk.do("show v"), desk.do("show r"), desk.do("show g")],
                         ["none", "none", "0 none none", "2"])
        self.assertEqual([desk.do("says r -"), desk.do("free b p"), desk.do("rank b p"), desk.do("loose g")],
                         ["none 0", "none", "0", "0,1"])
        desk.do_all("drop p", "spots p 0:3;0:1", "drop v", "values v 0:1:2/3")
        self.assertEqual([desk.do("forced b v 0 5"), desk.do("free b p"), desk.do("alike q b")], ["10/3", "0:3", "yes"])

    def test_told_lines_are_read_again(self):
        desk = started(STAMP[0], "line w 3 1/2:2:1,2,3,-4;5:0:0,0,0,1 1:1,1,1;-2/3:0,0,0")
        for name in ["s", "t", "z", "u", "w"]:
            found = Desk()
            found.do(f"line q {desk.do(f'show {name}')}")
            self.assertEqual(found["q"], desk[name])
        for word, name in [("course", "n"), ("course", "o"), ("spots", "p"), ("values", "v")]:
            found = Desk()
            found.do(f"{word} q {desk.do(f'show {name}')}")
            self.assertEqual(found["q"], desk[name])

    def test_answers_of_many_digits(self):
        desk = started("line w 1 999999:0:1,0 none", "times w1 w 999999", "drop w", "times w w1 999999")
        self.assertEqual(desk.do("show w"), "1 999997000002999999:0:1,0 none")
        self.assertEqual(desk.do("at n -" + "9" * 30), "-" + "9" * 30)


class Refused(unittest.TestCase):
    def check(self, command, error, told=None, *more):
        """Refused by just this error, which tells this; nothing is changed, nor what can be done again."""
        desk = started(*more, "spots y9 none", "undo") if len(more) < 2 else started(*more)
        before = [desk.names, desk.labels, len(desk), desk.lines(), desk.do("states"), [desk[name] for name in desk.names]]
        with self.subTest(command=command):
            with self.assertRaises(error) as caught:
                desk.do(command)
            self.assertIs(type(caught.exception), error)
            if told is not None:
                self.assertEqual(as_words(self.told(caught.exception)), as_words(told))
                self.assertEqual(self.told(caught.exception), told)
            self.assertEqual([desk.names, desk.labels, len(desk), desk.lines(), desk.do("states"),
                              [desk[name] for name in desk.names]], before)
            if len(more) < 2:
                self.assertEqual(desk.do("redo"), "spots y9 none")

    def told(self, error):
        return [vars(error)[key] for key in sorted(vars(error))][0] if len(vars(error)) == 1 else tuple(
            vars(error)[key] for key in sorted(vars(error)))

    def test_no_commands(self):
        for value in ["", "sums", "sums S", "line q 0", "SUMS q", "sums q ", " sums q", "claim k held b", "x", "undo 1"]:
            self.check(value, InvalidCommand, value)
        desk = Desk()
        for value in [None, 1, True, [], ["sums q"], b"sums q", ("sums q",)]:
            with self.assertRaises(InvalidCommand) as caught:
                desk.do(value)
            self.assertIs(caught.exception.value, value)

    def test_names_that_are_taken(self):
        for command in ["line s 9 none none", "sums s", "steps s 0 0", "plus s q q", "times s q 1", "put s q 9 none",
                        "book s 9 q", "course s 1", "both s q q", "led s q 1 1", "spots s 9:9", "values s none",
                        "copy s q", "copy s s"]:
            self.check(command, NameTaken, "s")
        for words in ["held q 9", "kept q", "follows q q", "keeps q q", "settles q q"]:
            self.check(f"claim k {words}", LabelTaken, "k", "claim k kept b")

    def test_names_that_are_unknown(self):
        for command, name in [
                ("plus q a w", "a"), ("plus q b s", "b"), ("plus q s b", "b"), ("plus q s w", "w"), ("times q n 1", "n"),
                ("put q b 9 none", "b"), ("book q 9 s,a,w", "a"), ("book q 1 s,b", "b"), ("add s s", "s"), ("add a w", "a"),
                ("add b b", "b"), ("add b n", "n"), ("strike s 0", "s"), ("exchange n 0", "n"), ("both q n s", "s"),
                ("both q s n", "s"), ("led q b 1 1", "b"), ("copy q a", "a"), ("drop a", "a"), ("show a", "a"),
                ("claim k held s 0", "s"), ("claim k kept n", "n"), ("claim k follows b b", "b"), ("claim k follows a w", "a"),
                ("claim k keeps b n,s", "s"), ("claim k keeps a w", "a"), ("claim k misses b a,w", "a"),
                ("claim k settles b v", "v"), ("claim k open b n", "n"), ("claim k open b a", "a"),
                ("same a s", "a"), ("same s b", "b"), ("same s a", "a"), ("same p v", "v"), ("same v p", "p"), ("same b n", "n"),
                ("says b 1", "b"), ("worth b n 1,1", "b"), ("worth s b 1,1", "b"), ("worth s n,a 1,1", "a"), ("at s 0", "s"),
                ("loose s", "s"), ("needless a", "a"), ("room n", "n"), ("dimension s", "s"), ("period v", "v"),
                ("degree p", "p"), ("alike b s", "s"), ("alike a b", "a"), ("forced b p 0 0", "p"), ("forced s v 0 0", "s"),
                ("rank b v", "v"), ("rank s p", "s"), ("free b n", "n"), ("free a p", "a")]:
            self.check(command, UnknownName, name)
        for command in ["state b", "claimed b", "forget b", "state x"]:
            self.check(command, UnknownLabel, command.split(" ")[1])
        self.check("state k", UnknownLabel, "k", "claim j kept b")

    def test_lines(self):
        self.check("line q 4 none none", InvalidLetters, 4)
        self.check("line q 4 1:0:1 1:1", InvalidLetters, 4)
        self.check("line q 1 1:0:1 1:1,1", InvalidTerms, [(Ratio(1), 0, [1])])
        self.check("line q 1 1/2:3:1,0 none", InvalidTerms, [(HALF, 3, [1, 0])])
        self.check("line q 0 " + ";".join(["1:0:1"] * 9) + " none", InvalidTerms, [(Ratio(1), 0, [1])] * 9)
        self.check("line q 1 1:0:1,0 1:-", InvalidRest, [(Ratio(1), [])])
        self.check("line q 1 none 1:4", InvalidRest, [(Ratio(1), [4])])
        self.check("line q 1 none " + ";".join(["2/3:1"] * 21), InvalidRest, [(Ratio(2, 3), [1])] * 21)
        self.check("steps q 0 0", InvalidMany, 0)
        self.check("steps q 5 13", InvalidMany, 5)
        self.check("steps q 4 13", InvalidMany, 13)
        self.check("plus q s z", UnlikeLetters)
        self.check("plus q w s", TooMany, (8, "terms"), "line w 2 " + ";".join(f"1:1:{k},0,0" for k in range(6)) + " none")
        self.check("put q s 4 none", InvalidMore, 4)
        self.check("put q s 1 1,0", InvalidPuts, [[1, 0]])
        self.check("put q s 1 1,0;1", InvalidPuts, [[1, 0], [1]])
        self.check("put q s 0 none", InvalidPuts, [])
        self.check("put q s 0 1;-", InvalidPuts, [[1], []])

    def test_books(self):
        self.check("book q 0 s", InvalidFunctions, 0)
        self.check("book q 4 -", InvalidFunctions, 4)
        self.check("book q 1 s,u", InvalidLines, [SUMS, U])
        self.check("add b u", InvalidLine, U)
        self.check("add w z", TooMany, (6, "lines"), "book w 1 s,s,s,s,s,s")
        self.check("strike b 1", InvalidPosition, 1)
        self.check("exchange b 1", InvalidOrder, [1])
        self.check("exchange e -", InvalidOrder, [])
        self.check("exchange e 0,0", InvalidOrder, [0, 0])

    def test_courses(self):
        self.check("course q " + ",".join(["1/2"] * 9), InvalidParts, [[HALF] * 9])
        self.check("course q 1;" + ",".join(["1"] * 9), InvalidParts, [[Ratio(1)], [Ratio(1)] * 9])
        parts = [";".join(str(k) for k in range(many)) for many in [7, 11]]
        self.check("both q w w1", TooMany, (60, "period"), f"course w {parts[0]}", f"course w1 {parts[1]}")

    def test_claims(self):
        self.check("claim k held b 1", InvalidClaim, ("held", ADDING, 1))
        self.check("claim k loose b 9", InvalidClaim, ("loose", ADDING, 9))
        self.check("claim k follows b u", InvalidClaim, ("follows", ADDING, U))
        self.check("claim k keeps b n,o", InvalidClaim, ("keeps", ADDING, [SAME, ODD]))
        self.check("claim k misses e n", InvalidClaim, ("misses", Book(2, [SUMS]), [SAME]))
        self.check("claim k open b w", InvalidClaim, ("open", ADDING, [(1, 2)]), "spots w 1:2")
        self.check("claim k settles e w", InvalidClaim, ("settles", Book(2, [SUMS]), [(0, 2), (0, 2)]), "spots w 0:2;0:2")
        for words in ["kept e", "nobody e", "follows e s", "breaks e s"]:
            self.check(f"claim k {words}", NotHeld)
        for words in ["settles e p", "open e p"]:
            self.check(f"claim k {words}", NotHeld)
        for words in ["follows x s", "breaks x s", "settles x p", "open x p"]:
            self.check(f"claim k {words}", NobodyKeeps)
        far = ";".join(f"{k},1" for k in range(60))
        self.check("claim k keeps b w", TooMany, (2000, "places"), f"course w {far}")

    def test_other_commands(self):
        self.check("says s 1", InvalidPlace, [1])
        self.check("says z 0", InvalidPlace, [0])
        self.check("worth u n 1", InvalidFilling, [SAME])
        self.check("worth s n 1", InvalidPlace, [1])
        for command in ["needless e", "room e", "dimension e", "period e", "degree e", "rank e p", "free e p",
                        "alike e e", "forced e v 0 0"]:
            self.check(command, NotHeld)
        self.check("alike b e", UnlikeFunctions)
        for command in ["needless x", "dimension x", "period x", "degree x", "rank x p", "free x p", "forced x v 0 0"]:
            self.check(command, NobodyKeeps)
        self.check("forced b v 1 0", InvalidFunction, 1)
        self.check("forced b w 0 0", NoneHasThem, None, "values w 0:0:1")
        self.check("forced b w 1 0", InvalidValues, [(1, 2, Ratio(3))], "values w 1:2:3")
        self.check("forced e w 5 0", InvalidValues, [(0, 2, Ratio(3)), (0, 2, HALF)], "values w 0:2:3;0:2:1/2")
        self.check("rank b w", InvalidSpots, [(1, 2)], "spots w 1:2")
        self.check("free x w", InvalidSpots, [(0, 2), (0, 2)], "spots w 0:2;0:2")
        self.check("rank b w", InvalidSpots, [(0, k) for k in range(41)],
                   "spots w " + ";".join(f"0:{k}" for k in range(41)))

    def test_lists_in_errors_are_new(self):
        desk = started("spots w 1:2")
        for command in ["rank b w", "claim k open b w"]:
            for _ in range(2):
                with self.assertRaises((InvalidSpots, InvalidClaim)) as caught:
                    desk.do(command)
                value = caught.exception.value
                spots = value[2] if isinstance(value, tuple) else value
                self.assertEqual(spots, [(1, 2)])
                spots.clear()
        self.assertEqual(desk["w"], [(1, 2)])


if __name__ == "__main__":
    unittest.main()
