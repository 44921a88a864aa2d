"""[95] and [98]: names, and commands and deeds by their words alone."""

import unittest

from helpers import not_lists
from known import SUMS
from soughtrows.commands import is_command, is_deed, is_name

# The words of each kind that are right, and some that are wrong.
NAMES = (["a", "s", "abcdefgh", "x1", "z9999999", "none", "claim"],
         ["", "A", "1a", "abcdefghi", "a_b", "a-b", "a,b", "-", "aB", "a ", "9"])
COUNTS = (["-", "0", "3,1,2", "7,7", ",".join(["1"] * 60), "9" * 30],
          ["", "-1", "1,", ",1", "1,,2", "01", "1/2", "a", "none", "1;2", ",".join(["1"] * 61), "9" * 31, "1,-"])
PLACES = (["-", "0", "-3,1,2", ",".join(["-1"] * 60), "-" + "9" * 30],
          ["", "--1", "1,", "1,-", "-,1", "-0", "1/2", "01", "none", "1;2", ",".join(["1"] * 61), "-" + "9" * 31])
KINDS = {
    "NEW": NAMES, "LABEL": NAMES, "LINE": NAMES, "BOOK": NAMES, "COURSE": NAMES, "SPOTS": NAMES, "VALUES": NAMES,
    "OTHER": NAMES, "NAME": NAMES, "COUNTS": COUNTS, "PLACES": PLACES,
    "COUNT": (["0", "7", "12345", "9" * 30], ["", "-1", "01", "-0", "1/2", "a", "+1", "-", "9" * 31, "1,2", "1.0"]),
    "INTEGER": (["0", "7", "-7", "-" + "9" * 30, "9" * 30],
                ["", "-0", "01", "-01", "1/2", "a", "+1", "-", "--1", "9" * 31, "-" + "9" * 31, "1,2"]),
    "NUMBER": (["0", "7", "-7", "1/2", "-3/4", "999999/999998", "-999999", "1/999999"],
               ["", "-0", "01", "2/4", "3/1", "0/2", "1/0", "1/-2", "a", "-", "1000000", "1/1000000", "1000001/2", "1/02"]),
    "TERMS": (["none", "1:0:1", "-1/2:2:-", "1:0:1,2,-3;0:5:0", ";".join(["1:0:1"] * 60), "1:0:" + "9" * 30],
              ["", "-", "1:0", "1:0:1:1", "1:0:", ":0:1", "1:-1:0", "1:0:1/2", "2/2:0:1", "1:0:1;", "1:0:1;none", "none;",
               ";".join(["1:0:1"] * 61), "1:0:1,", "1000000:0:1", "1:0:" + "9" * 31, "1:0:" + ",".join(["1"] * 61), "1:a:1"]),
    "REST": (["none", "1:-", "-1/2:1,2", "3:0;0:0", ";".join(["1:0"] * 60)],
             ["", "-", "1", "1:", "1:-1", "1:0:1", "1/1:0", "1:0;", "1:none", ";".join(["1:0"] * 61), "1:0,", "1:a"]),
    "ARGUMENTS": (["none", "-", "1,2", "1,2;0;-;-7", ";".join(["1"] * 60)],
                  ["", ";", "1;", ";1", "1,2,", "1/2", "none;1", "1;none", ";".join(["1"] * 61), ",".join(["1"] * 61)]),
    "LOTS": (["none", "0:1", "2:-5;0:0", "7:1", ";".join(["0:1"] * 60), "0:" + "9" * 30],
             ["", "-", "0", "0:", ":1", "0:1:2", "-1:0", "0:1/2", "0:1;", ";".join(["0:1"] * 61), "0:-0", "0:" + "9" * 31]),
    "TOLDS": (["none", "0:1:2", "2:-5:-1/2;0:0:0", ";".join(["0:1:2"] * 60)],
              ["", "-", "0:1", "0:1:", "0:1:2:3", "-1:0:1", "0:1/2:1", "0:1:2/2", "0:1:2;", ";".join(["0:1:2"] * 61),
               "0:1:1000000"]),
    "PARTS": (["-", "0", "1/2,-3", "0,1;-", "-;-;-", ";".join(["1"] * 60), ",".join(["1"] * 60)],
              ["", "none", ";", "1;", ";1", "1,", "1,-", "2/2", ";".join(["1"] * 61), ",".join(["1"] * 61), "1:2"]),
    "LINES": (["-", "a", "a,b,c,d,e,f", "a,a"], ["", "a,", ",a", "a,b,c,d,e,f,g", "A", "none,", "a,-", "-,a", "1"]),
    "FILLING": (["a", "a,b,c", "c,c"], ["", "-", "a,", "a,b,c,d", "A,b", "a;b", "1"]),
}
DEEDS = """line NEW COUNT TERMS REST/sums NEW/steps NEW COUNT COUNT/plus NEW LINE OTHER/times NEW LINE NUMBER
put NEW LINE COUNT ARGUMENTS/book NEW COUNT LINES/add BOOK LINE/strike BOOK COUNT/exchange BOOK COUNTS
course NEW PARTS/both NEW COURSE OTHER/led NEW COURSE INTEGER INTEGER/spots NEW LOTS/values NEW TOLDS
copy NEW NAME/drop NAME/claim LABEL held BOOK COUNT/claim LABEL loose BOOK COUNT/claim LABEL kept BOOK
claim LABEL nobody BOOK/claim LABEL follows BOOK LINE/claim LABEL breaks BOOK LINE/claim LABEL keeps BOOK FILLING
claim LABEL misses BOOK FILLING/claim LABEL settles BOOK SPOTS/claim LABEL open BOOK SPOTS/forget LABEL"""
OTHERS = """undo/redo/state LABEL/states/claimed LABEL/names/show NAME/same NAME OTHER/says LINE PLACES
worth LINE FILLING PLACES/at COURSE INTEGER/loose BOOK/needless BOOK/room BOOK/dimension BOOK/period BOOK/degree BOOK
alike BOOK OTHER/forced BOOK VALUES COUNT INTEGER/rank BOOK SPOTS/free BOOK SPOTS"""


def patterns(text):
    return [one.split(" ") for row in text.split("\n") for one in row.split("/")]


def plain(pattern):
    """A command with a right word for each kind."""
    return [KINDS[word][0][0] if word in KINDS else word for word in pattern]


class Names(unittest.TestCase):
    def test_names(self):
        for word in NAMES[0]:
            self.assertIs(is_name(word), True)
        for value in [*NAMES[1], *not_lists(), [], ["a"], ("a",), b"a", SUMS, "a\n", "\na", " a"]:
            self.assertIs(is_name(value), False)
        for sign in map(chr, range(128)):
            self.assertIs(is_name(sign), "a" <= sign <= "z")
            self.assertIs(is_name("a" + sign), "a" <= sign <= "z" or "0" <= sign <= "9")
        self.assertIs(is_name(value="a"), True)


class Commands(unittest.TestCase):
    def check(self, words, wanted, is_a_deed):
        command = " ".join(words)
        with self.subTest(command=command[:200]):
            self.assertIs(is_command(command), wanted)
            self.assertIs(is_deed(command), wanted and is_a_deed)

    def check_all(self, text, is_a_deed):
        for pattern in patterns(text):
            words = plain(pattern)
            self.check(words, True, is_a_deed)
            for at, kind in enumerate(pattern):
                if kind in KINDS:
                    for word in KINDS[kind][0]:
                        self.check([*words[:at], word, *words[at + 1:]], True, is_a_deed)
                    for word in KINDS[kind][1]:
                        self.check([*words[:at], word, *words[at + 1:]], False, is_a_deed)
            self.check_bent(words, is_a_deed)

    def check_bent(self, words, is_a_deed):
        """One word more or less, two blanks, blanks and line feeds around, another first word."""
        bent = [words[:-1], [*words, "a"], [*words, ""], ["", *words], [*words[:1], "", *words[1:]], [*words, "1"],
                [words[0].upper(), *words[1:]], [words[0] + "x", *words[1:]], [*words[:-1], words[-1] + "\n"],
                ["\n" + words[0], *words[1:]], [words[0] + "\n", *words[1:]]]
        for wrong in bent:
            self.check(wrong, False, is_a_deed)
        if len(words) > 1:
            self.check(words[1:], False, is_a_deed)

    def test_deeds(self):
        self.check_all(DEEDS, True)

    def test_other_commands(self):
        self.check_all(OTHERS, False)

    def test_claims(self):
        for word in ["held", "loose"]:
            self.check(["claim", "k", word, "b"], False, True)
            self.check(["claim", "k", word, "b", "0", "0"], False, True)
        for word in ["is", "true", "Held", "", "claim", "line"]:
            self.check(["claim", "k", word, "b"], False, True)
            self.check(["claim", "k", word, "b", "0"], False, True)
        for words in [["claim"], ["claim", "k"], ["claim", "kept", "b"], ["claim", "k", "kept"]]:
            self.check(words, False, True)
        self.check(["claim", "kept", "kept", "kept"], True, True)

    def test_any_value(self):
        for value in [*not_lists(), [], ["names"], ("names",), b"names", SUMS, "", " ", "\n", "names\n", ["undo"]]:
            self.assertIs(is_command(value), False)
            self.assertIs(is_deed(value), False)
        self.assertIs(is_command(value="names"), True)
        self.assertIs(is_deed(value="sums s"), True)


if __name__ == "__main__":
    unittest.main()
