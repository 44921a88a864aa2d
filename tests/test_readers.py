"""[92]: the wrong lines of strings that are no written forms."""

import random
import unittest

from helpers import not_lists, check_parameters
from known import SUMS, random_course, random_line
from soughtrows.books import Book
from soughtrows.errors import InvalidText
from soughtrows.ratios import Ratio
from soughtrows.readers import read
from soughtrows.texts import written

ADD = "line 2\nterm -1 0 0 1 0\nterm -1 0 1 0 0\nterm 1 0 1 1 0\n"
EIGHT = "line 0\n" + "".join(f"term 1 0 {k}\n" for k in range(8))
WRONG = {
    # No form at all, and forms that nothing begins.
    "": 1, "\n": 1, " ": 1, "a": 1, "lines\n": 1, "Line 0\n": 1, " line 0\n": 1, "\nline 0\n": 1, "term 1 0 1\n": 1,
    "spot 0 1\n": 1, "part\n": 1, "rest 1\n": 1, "times 1 0\n": 1, "value 0 1 2\n": 1, "\n\n": 1,
    # Last lines without a line feed.
    "line 2": 1, "spots": 1, "numbers 1 2": 1, "line 0\nterm 1 0 5": 2, "spots\nspot 0 1": 2, "course 1\npart 1": 2,
    "course 2\npart 1\npart": 3, ADD[:-1]: 4, ADD + "rest 1 0 0": 5, ADD + " ": 5, "numbers\n ": 2, "blend\nx": 2,
    # Numbers.
    "numbers 1  2\n": 1, "numbers \n": 1, "numbers 1 \n": 1, "numbers  1\n": 1, "numbers -0\n": 1, "numbers 01\n": 1,
    "numbers -01\n": 1, "numbers 00\n": 1, "numbers +1\n": 1, "numbers 3/1\n": 1, "numbers 2/4\n": 1, "numbers 0/2\n": 1,
    "numbers 1/0\n": 1, "numbers 1/-2\n": 1, "numbers 1/02\n": 1, "numbers -0/2\n": 1, "numbers /2\n": 1,
    "numbers 1/\n": 1, "numbers 1/2/3\n": 1, "numbers --1\n": 1, "numbers -\n": 1, "numbers 1.5\n": 1, "numbers 1_0\n": 1,
    "numbers 1,2\n": 1, "numbers a\n": 1, "numbers 1\n\n": 2, "numbers 1\nnumbers 1\n": 2, "numbers 1\n2\n": 2,
    "numbers" + " 1" * 61 + "\n": 1, "numbers 4/6\n": 1, "numbers 1/1\n": 1, "numbers 1 -6/3\n": 1,
    # Arguments.
    "argument\n": 1, "argument 1 2 3 4 5\n": 1, "argument 1/2\n": 1, "argument -0\n": 1, "argument 1\n1\n": 2,
    "argument 1 \n": 1, "argument 007\n": 1,
    # Lines.
    "line\n": 1, "line 4\n": 1, "line -1\n": 1, "line 02\n": 1, "line 1 1\n": 1, "line 1/2\n": 1, "line 2 \n": 1,
    "line 1\nterm 0 0 1 0\n": 2, "line 1\nterm 1 3 1 0\n": 2, "line 1\nterm 1 -1 1 0\n": 2, "line 1\nterm 1 0 1\n": 2,
    "line 1\nterm 1 0 1 0 0\n": 2, "line 1\nterm 1/1 0 1 0\n": 2, "line 1\nterm 1 0 1/2 0\n": 2, "line 1\nterm\n": 2,
    "line 1\nterm 1 0 1 -0\n": 2, "line 1\nterm 1 0 1  0\n": 2, "line 1\n term 1 0 1 0\n": 2, "line 1\nTerm 1 0 1 0\n": 2,
    "line 1\nterm 1 0 1 0\nterm 1 0 1 0\n": 3, "line 1\nterm 1 0 1 0\nterm 1 0 0 5\n": 3,
    "line 1\nterm 1 1 1 0\nterm 1 0 2 0\n": 3, "line 1\nterm 1 0 1 0\nterm 2 0 1 -1\n": 3,
    "line 1\nterm 1 0 10 0\nterm 1 0 9 0\n": 3, "line 1\nterm 1 0 1 0\nrest 1 0\nterm 1 0 2 0\n": 4,
    EIGHT + "term 1 0 8\n": 10, EIGHT + "term 1 1 0\n": 10, "line 1\nrest 0 1\n": 2, "line 1\nrest 1 4\n": 2,
    "line 2\nrest 1 2 2\n": 2, "line 1\nrest 1\n": 2, "line 1\nrest 1 1 1\n": 2, "line 1\nrest 1 -1\n": 2,
    "line 1\nrest 1 2\nrest 1 2\n": 3, "line 1\nrest 1 2\nrest 1 1\n": 3, "line 0\nrest 1\nrest 2\n": 3,
    "line 1\nrest 2/2 1\n": 2, "line 1\nline 1\n": 2, "line 1\n\n": 2, ADD + "\n": 5, ADD + "x\n": 5,
    "line 1\nrest 1 0\nrest 1 2\nrest 1 1\n": 4, "line 1\nterm 1 0 1 0\nterm 1 0 3 0\nterm 1 0 2 0\n": 4,
    "line 2\nrest 1 1 0\nrest 1 0 1\n": 3, "line 1\nrest 1 01\n": 2, "line 1\nrest 1 1 \n": 2,
    # Books.
    "book\n": 1, "book 0\n": 1, "book 4\n": 1, "book 1 1\n": 1, "book 1\nterm 1 0 1\n": 2, "book 1\nrest 1\n": 2,
    "book 1\nline 0\nterm 1 1 5\n": 3, "book 2\nline 0\nterm 1 2 5\n": 3, "book 1\nline 4\n": 2, "book 1\nbook 1\n": 2,
    "book 3\n" + "line 0\n" * 7: 8, "book 3\n" + ADD * 6 + "line 0\n": 26, "book 1\nline 0\nterm 1 0 5\nterm 1 0 5\n": 4,
    "book 1\nline 0\nrest 1\nterm 1 0 5\n": 4, "book 1\nline 0\n\n": 3, "book 1\nline 0 \n": 2, "book 1\nline\n": 2,
    "book 1\nline 0\n" + EIGHT + "term 1 0 9\n": 12, "book 1\n" + ADD + "line 1\nterm 1 0 1 1 0\n": 7,
    "book 2\nline 0\nterm 1 1 0\nline 0\nterm 1 2 0\n": 5, "book 1\nline 0\nterm 1 0 5": 3, "book 1\nx\n": 2,
    # Courses.
    "course\n": 1, "course 0\n": 1, "course 61\n": 1, "course 1\n": 2, "course 2\n": 2, "course 2\npart 1\n": 3,
    "course 60\n": 2, "course 3\npart\npart\n": 4, "course 1\npart 0\n": 2, "course 1\npart 1 0\n": 2,
    "course 1\npart 1 1 1 1 1 1 1 1 1\n": 2, "course 1\npart 1\npart 2\n": 3, "course 2\npart 1\npart 1\n": 3,
    "course 2\npart\npart\n": 3, "course 4\npart 1\npart 2\npart 1\npart 2\n": 5, "course 3\npart\npart\npart\n": 4,
    "course 6\npart 1\npart 2\npart 3\npart 1\npart 2\npart 3\n": 7,
    "course 6\npart 1\npart 2\npart 1\npart 2\npart 1\npart 2\n": 7, "course 2\npart 2/2\n": 2, "course 2\npar 1\n": 2,
    "course 2\npart 1\n\n": 3, "course 1\npart \n": 2, "course 1\npart 1\n\n": 3, "course 2\npart 1 0\npart 2\n": 2,
    "course 1\npart 0 0/2\n": 2, "course 1\npart": 2, "course 1\npart 1 1/1\n": 2,
    # Spots, values, blends.
    "spots 1\n": 1, "spots\nspot 0\n": 2, "spots\nspot 0 1 2\n": 2, "spots\nspot 3 1\n": 2, "spots\nspot 0 1/2\n": 2,
    "spots\nspot 0 1\nspot 0 1\n": 3, "spots\nspot 0 1\nspot 1 1\nspot 0 1\n": 4, "spots\nvalue 0 1 2\n": 2,
    "spots\nspot -1 0\n": 2, "spots\nspot 0 -0\n": 2, "spots\n" + "".join(f"spot 0 {k}\n" for k in range(41)): 42,
    "spots\n\n": 2, "spots\nspot 00 1\n": 2,
    "values 0\n": 1, "values\nvalue 0 1\n": 2, "values\nvalue 0 1 2 3\n": 2, "values\nvalue 3 1 2\n": 2,
    "values\nvalue 0 1 2/4\n": 2, "values\nvalue 0 1 2\nvalue 0 1 3\n": 3, "values\nspot 0 1\n": 2,
    "values\nvalue 0 1/2 1\n": 2, "values\n" + "".join(f"value 1 {k} 0\n" for k in range(41)): 42, "values\nvalue\n": 2,
    "blend 1\n": 1, "blend\ntimes 1\n": 2, "blend\ntimes 1 6\n": 2, "blend\ntimes 1 0 1 2 3 4\n": 2,
    "blend\ntimes 1/1 0\n": 2, "blend\ntimes 1 0 1/2\n": 2, "blend\ntimes 1 -1\n": 2, "blend\n" + "times 1 0\n" * 401: 402,
    "blend\ntimes\n": 2, "blend\ntimes 1 0\n\n": 3, "blend\ntimes 1 0\ntimes 1 0 -0\n": 3,
}
RIGHT = ["line 0\n", "line 3\n", "book 1\n", "book 3\n" + "line 0\n" * 6, "spots\n", "values\n", "blend\n", "numbers\n",
         EIGHT, EIGHT + "rest 1\n", "course 1\npart\n", "course 1\npart 1 1 1 1 1 1 1 1\n", "blend\n" + "times 0 0\n" * 400, "blend\ntimes 1 5 1 2 3\n",
         "course 4\npart 1\npart 2\npart 1\npart\n", "course 2\npart 1\npart 1 1\n", "argument 1 2 3 4\n",
         "line 1\nterm 1 0 9 0\nterm 1 0 10 -7\nterm 1 2 -1 0\nrest 1 0\nrest 1/2 3\n", "numbers" + " 1" * 60 + "\n",
         "spots\n" + "".join(f"spot 0 {k}\n" for k in range(40)), "book 1\n" + ADD * 6]


class Read(unittest.TestCase):
    def check_wrong(self, text, line):
        with self.assertRaises(InvalidText) as caught:
            read(text)
        self.assertIs(type(caught.exception), InvalidText)
        self.assertEqual((caught.exception.line, type(caught.exception.line)), (line, int))

    def test_wrong_lines(self):
        for text, line in WRONG.items():
            with self.subTest(text=text):
                self.check_wrong(text, line)
                # Whatever comes behind a wrong line that is told whole does not change which one is wrong.
                if text.endswith("\n") and line <= text.count("\n"):
                    self.check_wrong(text + "line 0\n", line)
                    self.check_wrong(text + "x", line)

    def test_right(self):
        for text in RIGHT:
            sort, value = read(text)
            self.assertEqual(written(sort, value), text)
            self.assertEqual(read(text=text), (sort, value))

    def test_no_string(self):
        for value in [*not_lists(), [], ["line 0\n"], ("line", SUMS), SUMS, b"line 0\n", True, None, 5]:
            if not isinstance(value, str):
                self.check_wrong(value, 0)
        self.check_wrong("1", 1)
        with self.assertRaises(InvalidText) as caught:
            read(text=None)
        self.assertEqual(caught.exception.line, 0)
        self.assertEqual(read.__code__.co_varnames[:read.__code__.co_argcount], ("text",))

    def test_great_numbers(self):
        great = "9" * 900
        for text in [f"numbers {great} -{great}\n", f"numbers 1/{great}\n", f"argument -{great}\n",
                     f"line 0\nterm 1 0 {great}\n", f"spots\nspot 0 {great}\n"]:
            sort, value = read(text)
            self.assertEqual(written(sort, value), text)
        self.assertEqual(read(f"numbers -7/1{great[1:].replace('9', '0')}\n")[1], [Ratio(-7, 10 ** 899)])

    def test_new_each_time(self):
        one, two = read("blend\ntimes 1 0 2\n"), read("blend\ntimes 1 0 2\n")
        self.assertEqual(one, two)
        self.assertIsNot(one[1], two[1])
        self.assertIsNot(one[1][0][2], two[1][0][2])


class Bent(unittest.TestCase):
    """Forms bent in one thing: they are the form of what is read, or the line told is the first that no form has."""

    def texts(self, draw):
        found = list(RIGHT[:7]) + [ADD, "numbers 1 -3/2 0\n", "argument 2 0 -1\n", "spots\nspot 1 -3\nspot 0 2\n",
                                   "values\nvalue 0 2 1/2\nvalue 1 0 3\n", "blend\ntimes 1/2 0 1\ntimes -3 5\n"]
        for _ in range(12):
            found.append(written("line", random_line(draw, 3, 5)))
            found.append(written("book", Book(3, [random_line(draw, 3, 3) for _ in range(3)])))
            found.append(written("course", random_course(draw, 6, 2)))
        return found

    def bent(self, draw, text):
        at = draw.randint(0, len(text))
        rows = text.split("\n")
        row = draw.randrange(len(rows))
        return draw.choice([
            text[:at] + draw.choice(" \n-/012ax") + text[at:], text[:at] + text[at + 1:], text[:at],
            text[:at] + draw.choice("0123 \n-") + text[at + 1:], "\n".join(rows[:row] + rows[row + 1:]),
            "\n".join(rows[:row] + rows[row:row + 1] * 2 + rows[row + 1:]),
            "\n".join(rows[:row] + draw.sample(rows[row:], len(rows[row:]))),
        ])

    def is_begun(self, rows):
        """Whether some written form begins with these lines."""
        text = "".join(f"{row}\n" for row in rows)
        for more in ["", *self.courses_behind(rows)]:
            try:
                read(text + more)
                return True
            except InvalidText:
                pass
        return False

    def courses_behind(self, rows):
        words = rows[0].split(" ")
        if words[0] == "course" and len(words) == 2 and words[1].isdigit() and int(words[1]) <= 60:
            left = int(words[1]) - len(rows) + 1
            yield "".join(f"part {70 + k}\n" for k in range(left))

    def test_bent(self):
        draw = random.Random(92)
        seen = {True: 0, False: 0}
        for text in self.texts(draw) * 12:
            wrong = self.bent(draw, text)
            try:
                sort, value = read(wrong)
                self.assertEqual(written(sort, value), wrong)
                seen[True] += 1
            except InvalidText as caught:
                self.check_line(wrong, caught.line)
                seen[False] += 1
        self.assertTrue(min(seen.values()) > 30, seen)

    def check_line(self, text, line):
        rows = text.split("\n")
        self.assertTrue(1 <= line <= len(rows), (text, line))
        if line > 1:
            self.assertTrue(self.is_begun(rows[:line - 1]), (text, line))
        if line < len(rows):
            self.assertFalse(self.is_begun(rows[:line]), (text, line))


class Parameters(unittest.TestCase):
    def test_name(self):
        check_parameters(self, read, [("text", ADD)], {})


if __name__ == "__main__":
    unittest.main()
