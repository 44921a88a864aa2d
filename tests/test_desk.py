"""[95] to [97]: desks, the states of claims, deeds, and what is taken back or tried."""

import random
import unittest

from helpers import as_words, check_bare, check_new, check_too_many, check_value, not_lists
from known import ADDING, NOUGHT, ODD, ODDS, SAME, STAMPS, SUMS, told
from soughtrows.books import Book
from soughtrows.claims import contrary, is_claim, is_true, paper_of
from soughtrows.courses import Course
from soughtrows.desk import Desk, Trial, tried
from soughtrows.errors import (
    CommandFailed, InvalidClaim, InvalidCommand, InvalidDeeds, InvalidPaper, InvalidPosition, LabelTaken, NameTaken,
    NobodyKeeps, NotHeld, NothingToRedo, NothingToUndo, TooMany, UnknownLabel, UnknownName, UnlikeLetters,
)
from soughtrows.lines import Line
from soughtrows.ratios import Ratio

START = ["sums s", "line t 2 1:0:2,1,0;-1:0:2,0,0;-1:0:0,1,0 none", "line z 0 1:0:1 -3:-", "book b 1 s", "book c 1 t",
         "course n 0,1", "course o -;1", "spots p 0:2;0:4", "values v 0:2:6"]
CLAIMS = ["claim ka held b 0", "claim kb kept b", "claim kc breaks c s", "claim kd misses b o", "claim ke open c p",
          "claim kf settles b p", "claim kg nobody b"]


def started(*more):
    desk = Desk()
    desk.do_all(*START, *more)
    return desk


def all_of(desk):
    """Whatever a desk tells, in words and values."""
    fits = [(label, desk.fits(label), desk.claim_of(label)) for label in desk.labels]
    return [desk.names, desk.labels, len(desk), [desk[name] for name in desk.names], fits, desk.lines(),
            desk.do("states"), [desk.do(f"claimed {label}") for label in desk.labels],
            [desk.do(f"show {name}") for name in desk.names]]


def with_redo(desk):
    """As all_of, and what can be done again."""
    other = desk.copy()
    done = []
    while True:
        try:
            done.append(other.do("redo"))
        except NothingToRedo:
            return [*all_of(desk), done, other.do("states")]


def check_failed(test, position, error, function, *passed):
    with test.assertRaises(CommandFailed) as caught:
        function(*passed)
    test.assertIs(type(caught.exception), CommandFailed)
    test.assertEqual(caught.exception.position, position)
    test.assertIs(type(caught.exception.__cause__), error)
    return caught.exception.__cause__


class Kept(unittest.TestCase):
    def test_new_desk(self):
        desk = Desk()
        self.assertEqual([desk.names, desk.labels, len(desk), desk.lines()], [[], [], 0, []])
        self.assertEqual([desk.do("names"), desk.do("states")], ["-", "-"])
        self.assertIs("s" in desk, False)

    def test_things(self):
        desk = started()
        self.assertEqual(desk.names, ["b", "c", "n", "o", "p", "s", "t", "v", "z"])
        self.assertEqual([desk["s"], desk["t"], desk["z"]], [SUMS, ODDS, told(0, 1, 3)])
        self.assertEqual([desk["b"], desk["c"], desk["n"], desk["o"]], [ADDING, STAMPS, SAME, ODD])
        self.assertEqual(as_words([desk["p"], desk["v"]]), "[[(0, 2), (0, 4)], [(0, 2, Ratio(6, 1))]]")
        self.assertEqual(len(desk), 9)
        self.assertEqual(desk.lines(), START)
        check_new(self, desk["p"], desk["p"], desk["v"], desk.names, desk.names, desk.lines(), desk.lines())
        desk["p"].append(1)
        desk.names.append("x")
        desk.lines().clear()
        self.assertEqual([desk["p"], "x" in desk, len(desk.lines())], [[(0, 2), (0, 4)], False, 9])

    def test_any_name(self):
        desk = started("claim k kept b")
        for value in [*not_lists(), [], ["s"], ("s",), "k", "S", "x", "", SUMS, b"s", "s "]:
            self.assertIs(value in desk, False)
            with self.assertRaises(UnknownName) as caught:
                desk[value]
            self.assertIs(caught.exception.value, value)
            with self.assertRaises(UnknownLabel) as caught:
                desk.claim_of("x" if value == "k" else value)
            for function, more in [(desk.claim_of, []), (desk.fits, []), (desk.attach, [[SAME]])]:
                if value != "k":
                    check_value(self, UnknownLabel, value, function, value, *more)
        self.assertIs("s" in desk, True)
        with self.assertRaises(TypeError):
            iter(desk)

    def test_does_not_hang_on_other_names(self):
        desk = started()
        desk.do_all("drop s", "line s 1 none none", "copy d b", "add b z", "drop t")
        self.assertEqual([desk["d"], desk["c"], desk["s"]], [ADDING, STAMPS, Line(1, [], [])])
        self.assertEqual(desk["b"], Book(1, [SUMS, told(0, 1, 3)]))

    def test_names_and_labels(self):
        desk = started("claim s kept b", "claim b held b 0")
        self.assertEqual([desk.labels, "b" in desk], [["b", "s"], True])
        desk.do("forget b")
        self.assertEqual([desk.labels, desk["b"]], [["s"], ADDING])

    def test_just_twelve_names(self):
        desk = started("copy x1 s", "copy x2 b", "spots x3 none")
        self.assertEqual(len(desk.names), 12)
        before = with_redo(desk)
        for command in ["sums y", "copy y s", "book y 1 s", "course y 1", "spots y none", "values y none",
                        "line y 0 none none", "plus y s t", "times y s 2", "put y s 0 0;0", "both y n o", "led y n 2 1",
                        "steps y 1 1"]:
            check_too_many(self, "names", 12, desk.do, command)
        check_value(self, UnknownName, "q", desk.do, "copy y q")
        check_bare(self, UnlikeLetters, desk.do, "plus y s z")
        self.assertEqual(with_redo(desk), before)
        desk.do_all("add b z", "drop x3", "sums y")
        check_too_many(self, "names", 12, desk.do, "sums x3")

    def test_just_twelve_labels(self):
        desk = started(*[f"claim k{at} kept b" for at in range(12)])
        check_too_many(self, "labels", 12, desk.do, "claim x kept b")
        check_value(self, InvalidClaim, ("held", ADDING, 1), desk.do, "claim x held b 1")
        with self.assertRaises(LabelTaken):
            desk.do("claim k3 kept b")
        self.assertEqual(desk.do("forget k3"), "-")
        self.assertEqual(desk.do("claim x kept b"), "x true")

    def test_just_300_deeds(self):
        desk = Desk()
        desk.do_all(*["sums s", "drop s"] * 150)
        self.assertEqual([len(desk), desk.names], [300, []])
        for command in ["sums s", "spots p none"]:
            check_too_many(self, "deeds", 300, desk.do, command)
        self.assertEqual([desk.do("undo"), desk.do("undo"), len(desk)], ["drop s", "sums s", 298])
        self.assertEqual([desk.do("redo"), desk.do("redo"), len(desk)], ["sums s", "drop s", 300])
        check_too_many(self, "deeds", 300, desk.do, "sums s")
        desk.do("undo")
        check_too_many(self, "deeds", 300, tried, desk, lambda held: held.do("copy t s") + held.do("drop t"))
        self.assertEqual(desk.do("drop s"), "-")
        check_bare(self, NothingToRedo, desk.do, "redo")
        # Names and labels come ahead of deeds.
        desk = started(*["course x 1", "drop x"] * 144, "sums w", "sums x", "sums y")
        self.assertEqual([len(desk), len(desk.names)], [300, 12])
        check_too_many(self, "names", 12, desk.do, "sums w1")
        check_too_many(self, "deeds", 300, desk.do, "drop s")
        check_too_many(self, "deeds", 300, desk.do, "claim k kept b")
        check_value(self, UnknownName, "q", desk.do, "drop q")


class States(unittest.TestCase):
    def test_answers(self):
        desk = started()
        answers = [desk.do(command) for command in CLAIMS]
        self.assertEqual(answers, ["ka true", "kb true", "kc true", "kd true", "ke true", "kf true", "kg false"])
        self.assertEqual(desk.do("states"),
                         "ka true, kb true, kc true, kd true, ke true, kf true, kg false")
        self.assertEqual([desk.do("state ka"), desk.do("state kg")], ["true", "false"])
        self.assertEqual(desk.do("line w 0 1:0:0 1:-"), "-")
        self.assertEqual(desk.do("add b w"), "kb false, kf gone, kg true")
        self.assertEqual(desk.do("state kf"), "gone")
        self.assertEqual(desk.do("undo"), "add b w")
        self.assertEqual(desk.do("state kf"), "true")
        self.assertEqual(desk.do("redo"), "add b w")
        self.assertEqual(desk.do("states"), "ka true, kb false, kc true, kd true, ke true, kf gone, kg true")
        self.assertEqual(desk.do("strike b 0"), "ka false, kb gone, kg gone")
        self.assertEqual(desk.do("drop b"), "ka gone, kd gone")
        self.assertEqual(desk.do("book b 1 s"), "ka true, kb true, kd true, kf true, kg false")

    def test_gone(self):
        desk = started(*CLAIMS)
        self.assertEqual(desk.do("drop o"), "kd gone")
        self.assertEqual(desk.do("copy o s"), "-")
        self.assertIsNone(desk.claim_of("kd"))
        self.assertEqual(desk.do("drop o"), "-")
        self.assertEqual(desk.do("course o 0,1"), "kd false")
        self.assertEqual(desk.do("drop p"), "ke gone, kf gone")
        self.assertEqual(desk.do("values p none"), "-")
        self.assertEqual(desk.do_all("drop p", "spots p 1:0"), ["-", "-"])
        self.assertEqual(desk.do_all("drop p", "spots p 0:1;0:1"), ["-", "-"])
        self.assertEqual(desk.do_all("drop p", "spots p " + ";".join(f"0:{k}" for k in range(41))), ["-", "-"])
        self.assertEqual(desk.do_all("drop p", "spots p 0:0"), ["-", "ke true, kf false"])
        self.assertEqual(desk.do("drop s"), "kc gone")
        self.assertEqual(desk.do("line s 0 1:1:0 none"), "-")
        self.assertEqual(desk.do_all("drop s", "line s 0 1:0:0 none"), ["-", "kc false"])
        self.assertEqual(desk.do("exchange b 0"), "-")

    def test_functions_that_are_gone(self):
        desk = started("line u 2 1:1:1,1,0;-1:1:1,0,0;-1:1:0,1,0 none", "book d 2 s,u", "claim x held d 1",
                       "claim y keeps d n,n")
        self.assertEqual(desk.do("states"), "x true, y true")
        self.assertEqual(desk.do_all("drop d", "book d 1 s"), ["x gone, y gone", "-"])
        self.assertEqual(desk.do_all("drop d", "book d 2 s"), ["-", "x false, y true"])

    def test_too_many_places(self):
        parts = ";".join(f"{k},1" for k in range(60))
        desk = started("claim k keeps b n", "drop n")
        self.assertEqual(desk.do(f"course n {parts}"), "-")
        self.assertEqual(desk.do("state k"), "gone")
        self.assertIsNone(desk.claim_of("k"))
        check_too_many(self, "places", 2000, desk.do, "claim x keeps b n")
        self.assertEqual(desk.do_all("drop n", "course n 0,2"), ["-", "k true"])

    def test_claims(self):
        desk = started(*CLAIMS)
        wanted = [("held", ADDING, 0), ("kept", ADDING), ("breaks", STAMPS, SUMS), ("misses", ADDING, [ODD]),
                  ("open", STAMPS, [(0, 2), (0, 4)]), ("settles", ADDING, [(0, 2), (0, 4)]), ("nobody", ADDING)]
        self.assertEqual([desk.claim_of(label) for label in desk.labels], wanted)
        self.assertEqual([desk.do(f"claimed {label}") for label in desk.labels],
                         [command.split(" ", 2)[2] for command in CLAIMS])
        for label in desk.labels:
            self.assertIs(is_claim(desk.claim_of(label)), True)
            check_new(self, desk.claim_of(label), desk.claim_of(label))
        desk.claim_of(label="ke")[2].clear()
        self.assertEqual(desk.claim_of("ke"), wanted[4])
        desk.do_all("drop b", "copy b c")
        self.assertEqual(desk.claim_of("ka"), ("held", STAMPS, 0))
        self.assertEqual(desk.do("claimed ka"), "held b 0")

    def test_noted_again(self):
        desk = started("claim k kept b")
        with self.assertRaises(LabelTaken) as caught:
            desk.do("claim k nobody b")
        self.assertEqual(caught.exception.label, "k")
        self.assertEqual(desk.do("forget k"), "-")
        check_value(self, UnknownLabel, "k", desk.do, "state k")
        self.assertEqual(desk.do("claim k nobody b"), "k false")
        self.assertEqual([desk.do("undo"), desk.do("undo")], ["claim k nobody b", "forget k"])
        self.assertEqual([desk.do("claimed k"), desk.do("state k")], ["kept b", "true"])
        self.assertEqual(desk.do("forget k"), "-")
        check_bare(self, NothingToRedo, desk.do, "redo")

    def test_states_as_reckoned_anew(self):
        draw = random.Random(96)
        names = ["b", "c", "n", "o", "p", "s", "t", "z"]
        for _ in range(12):
            desk = started(*CLAIMS)
            for _ in range(25):
                one, two = draw.choice(names), draw.choice(names)
                command = draw.choice([f"drop {one}", f"copy {one} {two}", "add b z", "strike b 0", "add c s", "undo",
                                       "redo", f"sums {one}", f"course {one} 0,1", f"book {one} 1 s", "strike c 0"])
                try:
                    before = states_anew(desk)
                    answer = desk.do(command)
                except (NameTaken, UnknownName, NothingToUndo, NothingToRedo, InvalidPosition, TooMany):
                    continue
                after = states_anew(desk)
                self.assertEqual(desk.do("states"), ", ".join(f"{label} {after[label]}" for label in sorted(after)))
                changed = [f"{label} {after[label]}" for label in sorted(after) if after[label] != before.get(label)]
                if command not in ("undo", "redo"):
                    self.assertEqual(answer, ", ".join(changed) or "-")


def states_anew(desk):
    """The states, from the things and the words of the claims."""
    found = {}
    for label in desk.labels:
        word, name, *more = desk.do(f"claimed {label}").split(" ")
        parts = [int(part) if part.isdigit() else part for part in more]
        kind = {"breaks": Line, "misses": Course, "open": list, "settles": list}.get(word)
        things = [name, *[part for part in parts if isinstance(part, str)]]
        if any(thing not in desk for thing in things) or not isinstance(desk[name], Book):
            found[label] = "gone"
            continue
        if kind is not None and not isinstance(desk[things[1]], kind):
            found[label] = "gone"
            continue
        claim = (word, desk[name], *[part if isinstance(part, int) else desk[part] for part in parts])
        claim = (*claim[:2], [claim[2]]) if word == "misses" else claim
        try:
            found[label] = ("true" if is_true(claim) else "false") if is_claim(claim) else "gone"
        except (NotHeld, NobodyKeeps):
            found[label] = "gone"
    return found


class UndoRedo(unittest.TestCase):
    def test_back_and_forth(self):
        desk = Desk()
        pages = [with_redo(desk)[:9]]
        deeds = START + CLAIMS + ["add b z", "exchange c 0", "drop s", "forget kc", "strike b 1"]
        for deed in deeds:
            desk.do(deed)
            pages.append(with_redo(desk)[:9])
        for at in range(len(deeds), 0, -1):
            self.assertEqual(desk.do("undo"), deeds[at - 1])
            self.assertEqual(all_of(desk), pages[at - 1])
            self.assertEqual(len(desk), at - 1)
        check_bare(self, NothingToUndo, desk.do, "undo")
        for at, deed in enumerate(deeds):
            self.assertEqual(desk.do("redo"), deed)
            self.assertEqual(all_of(desk), pages[at + 1])
        check_bare(self, NothingToRedo, desk.do, "redo")

    def test_a_deed_between(self):
        desk = started()
        desk.do_all("undo", "undo", "redo")
        self.assertEqual(desk.do("values w none"), "-")
        check_bare(self, NothingToRedo, desk.do, "redo")
        self.assertEqual(desk.lines(), [*START[:-1], "values w none"])

    def test_what_does_not_come_between(self):
        desk = started("claim kb kept b")
        desk.do_all("undo", "undo")
        before = with_redo(desk)
        for command in ["names", "states", "show b", "dimension b", "same b c"]:
            desk.do(command)
        for command in ["sums s", "drop q", "dimension q", "line q 0 1:0:1,1 none", "claim k held b 7", "what", ""]:
            with self.assertRaises(Exception):
                desk.do(command)
        self.assertEqual(with_redo(desk), before)
        self.assertEqual(desk.do("redo"), "values v 0:2:6")
        self.assertEqual(desk.do("redo"), "claim kb kept b")


class All(unittest.TestCase):
    def test_all_or_none(self):
        desk = started("claim k kept b")
        desk.do("undo")
        before = with_redo(desk)
        error = check_failed(self, 2, NameTaken, desk.do_all, "sums q", "drop z", "sums q", "undo")
        self.assertEqual(error.name, "q")
        self.assertEqual(with_redo(desk), before)
        error = check_failed(self, 0, InvalidCommand, desk.do_all, None, "sums q")
        self.assertIs(error.value, None)
        check_failed(self, 3, NothingToUndo, Desk().do_all, "sums q", "undo", "names", "undo")
        check_failed(self, 1, NotHeld, desk.do_all, "book d 2 s", "room d")
        check_failed(self, 1, InvalidClaim, desk.do_all, "redo", "claim j held b 3")
        self.assertEqual(with_redo(desk), before)
        self.assertEqual(desk.do_all(), [])
        self.assertEqual(desk.do_all("redo", "undo", "names"), ["claim k kept b", "claim k kept b", "b c n o p s t v z"])
        self.assertEqual(desk.do_all("undo", "undo"), START[:-3:-1])

    def test_call(self):
        desk = Desk()
        self.assertEqual([desk("sums s"), desk(command="book b 1 s"), desk.do(command="names")], ["-", "-", "b s"])
        check_value(self, InvalidCommand, "sums", desk, "sums")

    def test_attempt(self):
        desk = started(*CLAIMS)
        desk.do("undo")
        before = with_redo(desk)
        self.assertEqual(desk.attempt("add b z", "drop s", "dimension b", "names"),
                         ["-", "kc gone", "0", "b c n o p t v z"])
        self.assertEqual(with_redo(desk), before)
        self.assertEqual(desk.attempt("redo"), [CLAIMS[-1]])
        self.assertEqual(desk.attempt(), [])
        self.assertEqual(with_redo(desk), before)
        check_failed(self, 1, UnknownName, desk.attempt, "drop b", "drop b")
        self.assertEqual(with_redo(desk), before)

    def test_trial(self):
        desk = started(*CLAIMS)
        desk.attach("kb", [SAME])
        desk.do("undo")
        before = with_redo(desk)
        trial = Trial(desk)
        for _ in range(2):
            with trial as held:
                self.assertIs(held, desk)
                held.do_all("drop b", "spots q none")
                held.attach("ke", ([NOUGHT], [ODD]))
                self.assertEqual([held.do("state kb"), held.fits("ke")], ["gone", True])
            self.assertEqual(with_redo(desk), before)
        with self.assertRaises(ZeroDivisionError):
            with Trial(desk=desk) as held:
                held.attach("kb", [NOUGHT])
                held.do("undo")
                raise ZeroDivisionError
        self.assertEqual(with_redo(desk), before)
        desk.do("add b z")
        other = with_redo(desk)
        with trial as held:
            held.do("undo")
        self.assertEqual(with_redo(desk), other)
        with Trial(desk) as one, Trial(desk) as two:
            self.assertIs(one, two)
            one.do_all("drop b", "drop c")
        self.assertEqual(with_redo(desk), other)

    def test_tried(self):
        desk = started()
        before = with_redo(desk)
        self.assertEqual(tried(desk, lambda held: [held.do("drop b"), held.do("names"), held is desk]),
                         ["-", "c n o p s t v z", True])
        self.assertEqual(with_redo(desk), before)
        with self.assertRaises(UnknownName):
            tried(desk=desk, action=lambda held: held.do_all("drop b") + [held["b"]])
        self.assertEqual(with_redo(desk), before)
        self.assertEqual(tried(desk, lambda held: held.attempt("drop b") + held.attempt("drop b")), ["-", "-"])


class Papers(unittest.TestCase):
    def test_attach(self):
        desk = started(*CLAIMS)
        papers = {"ka": paper_of(desk.claim_of("ka")), "kb": [SAME], "kc": ([ODD], [1, 1]), "kd": (0, [1, 1]),
                  "ke": ([NOUGHT], [ODD]), "kg": [Course([[0, 7]])]}
        self.assertIs(desk.fits("ka"), False)
        for label, paper in papers.items():
            before = as_words(paper)
            self.assertIsNone(desk.attach(label, paper))
            self.assertEqual(as_words(paper), before)
        self.assertEqual({label: desk.fits(label) for label in desk.labels},
                         {label: label != "kf" for label in desk.labels})
        self.assertEqual([len(desk), desk.lines()], [16, START + CLAIMS])
        self.assertIs(desk.fits(label="ka"), True)
        self.assertIsNone(desk.attach(label="kb", paper=(NOUGHT,)))

    def test_refused(self):
        desk = started(*CLAIMS)
        for label, paper in [("ka", []), ("kb", [ODD]), ("kb", None), ("kc", ([ODD], [1, 0])), ("kd", (0, [0])),
                             ("ke", ([ODD], [ODD])), ("kf", ([SAME], [ODD])), ("kf", None), ("kg", [(1, 0, [0, 0])])]:
            check_value(self, InvalidPaper, paper, desk.attach, label, paper)
            self.assertIs(desk.fits(label), False)
        desk.attach("kb", [SAME])
        check_value(self, InvalidPaper, [ODD], desk.attach, "kb", [ODD])
        self.assertIs(desk.fits("kb"), True)
        check_value(self, UnknownLabel, "b", desk.attach, "b", [ODD])
        check_value(self, UnknownLabel, "x", desk.attach, label="x", paper=None)
        desk.do("drop b")
        check_value(self, InvalidPaper, [SAME], desk.attach, "kb", [SAME])
        self.assertIs(desk.fits("kb"), False)

    def test_copies_what_it_is_given(self):
        desk = started(*CLAIMS)
        filling, place = [ODD], [1, 1]
        desk.attach("kc", (filling, place))
        filling.clear()
        place[0] = 0
        self.assertIs(desk.fits("kc"), True)
        paper = paper_of(("held", ADDING, 0))
        desk.attach("ka", paper)
        paper[0][2][0][0] = 99
        paper.append(None)
        self.assertIs(desk.fits("ka"), True)

    def test_of_the_contrary(self):
        desk = started("claim k settles b p", "claim j follows c s", "claim m keeps b o", "claim g loose b 0")
        self.assertEqual(desk.do("states"), "g false, j false, k true, m false")
        self.assertIsNone(paper_of(contrary(desk.claim_of("k"))))
        for label in "gjm":
            desk.attach(label, paper_of(contrary(desk.claim_of(label))))
            self.assertIs(desk.fits(label), True)
        desk.do_all("drop o", "course o 0,3")
        self.assertEqual([desk.do("state m"), desk.fits("m")], ["true", False])

    def test_along_deeds(self):
        desk = started(*CLAIMS)
        desk.attach("kb", [SAME])
        self.assertEqual(desk.do("add b z"), "-")
        self.assertIs(desk.fits("kb"), False)
        desk.do("undo")
        self.assertIs(desk.fits("kb"), True)
        desk.do_all("redo", "drop b")
        self.assertIs(desk.fits("kb"), False)
        desk.do("book b 1 t")
        self.assertIs(desk.fits("kb"), True)
        desk.do("forget kb")
        check_value(self, UnknownLabel, "kb", desk.fits, "kb")
        desk.do("claim kb nobody b")
        self.assertIs(desk.fits("kb"), False)
        desk.do_all("forget kb", "claim kb kept c")
        self.assertIs(desk.fits("kb"), False)
        desk.do_all("forget kb", "claim kb kept b")
        self.assertIs(desk.fits("kb"), True)
        desk.do_all("undo", "undo", "undo", "undo")
        self.assertEqual(desk.do("claimed kb"), "nobody b")
        self.assertIs(desk.fits("kb"), False)
        desk.attach("kb", [ODD])
        self.assertIs(desk.fits("kb"), True)
        desk.do_all("undo", "undo")
        self.assertEqual([desk.do("claimed kb"), desk.fits("kb")], ["kept b", False])

    def test_copies_and_trials(self):
        desk = started(*CLAIMS)
        desk.attach("kb", [SAME])
        other = desk.copy()
        self.assertIs(other.fits("kb"), True)
        other.attach("kg", [NOUGHT])
        self.assertEqual([other.fits("kg"), desk.fits("kg")], [True, False])
        with Trial(desk) as held:
            held.attach("kg", [NOUGHT])
            held.do("undo")
        self.assertEqual([desk.fits("kg"), desk.fits("kb")], [False, True])
        check_failed(self, 1, UnknownName, desk.do_all, "drop b", "drop b")
        desk.attempt("forget kb")
        self.assertIs(desk.fits("kb"), True)


class Again(unittest.TestCase):
    def test_copy(self):
        desk = started(*CLAIMS)
        desk.do_all("undo", "undo")
        other = desk.copy()
        self.assertIsInstance(other, Desk)
        self.assertEqual(with_redo(other), with_redo(desk))
        before = with_redo(desk)
        other.do_all("redo", "drop b", "undo", "sums x")
        self.assertEqual(with_redo(desk), before)
        before = with_redo(other)
        desk.do_all("undo", "drop v")
        self.assertEqual(with_redo(other), before)

    def test_again(self):
        desk = started(*CLAIMS, "undo", "drop v", "names", "undo")
        found = Desk.again(desk.lines())
        self.assertEqual(all_of(found), all_of(desk))
        check_bare(self, NothingToRedo, found.do, "redo")
        self.assertEqual(all_of(Desk.again(lines=tuple(desk.lines()))), all_of(desk))
        self.assertEqual(Desk.again([]).names, [])
        lines = list(START)
        found = Desk.again(lines)
        lines.clear()
        self.assertEqual(found.lines(), START)

    def test_refused(self):
        for value in [*not_lists(), "sums s", {"sums s": 1}, {"sums s"}]:
            if not isinstance(value, (list, tuple)):
                self.check_invalid(None, value)
        for position, lines in [(0, ["names"]), (1, ["sums s", "undo"]), (1, ["sums s", None, "names"]), (0, [["sums s"]]),
                                (2, ["drop q", "drop q", "drop"]), (0, ("",)), (1, ["sums s", "sums"]), (0, [True])]:
            self.check_invalid(position, lines)
        error = check_failed(self, 1, NameTaken, Desk.again, ["sums s", "sums s", "drop q"])
        self.assertEqual(error.name, "s")
        check_failed(self, 0, UnknownName, Desk.again, ["drop q"])
        check_failed(self, 300, TooMany, Desk.again, ["sums s", "drop s"] * 150 + ["sums s"])

    def check_invalid(self, position, value):
        with self.assertRaises(InvalidDeeds) as caught:
            Desk.again(value)
        self.assertIs(type(caught.exception), InvalidDeeds)
        self.assertEqual(caught.exception.position, position)
        self.assertIsNot(caught.exception.position, False)


if __name__ == "__main__":
    unittest.main()
