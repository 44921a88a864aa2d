"""The section "Errors" of the interface: every class, its base, its attributes."""

import re
import unittest

from soughtrows import errors
from soughtrows.ratios import Ratio

TOLD = {
    "BookError": """InvalidArgument(value), InvalidBlend(value), InvalidBook(value), InvalidCourse(value),
        InvalidFilling(value), InvalidFunction(value), InvalidLetters(value), InvalidLine(value),
        InvalidNumber(value), InvalidPlace(value), InvalidWhole(value), DividedByZero(), InvalidClaim(value),
        InvalidCommand(value), InvalidDeeds(position), InvalidFunctions(value), InvalidGoal(value),
        InvalidGoals(value), InvalidHigh(value), InvalidLines(value), InvalidLow(value), InvalidMany(value),
        InvalidMore(value), InvalidNumbers(value), InvalidOrder(value), InvalidPaper(value),
        InvalidParts(value), InvalidPeriod(value), InvalidPosition(value), InvalidPuts(value),
        InvalidRest(value), InvalidRows(value), InvalidShapes(value), InvalidSheet(value), InvalidSort(value),
        InvalidSpots(value), InvalidTables(value), InvalidTerms(value), InvalidText(line),
        InvalidValue(value), InvalidValues(value)""",
    "MissingError": "UnknownLabel(value), UnknownName(value)",
    "StateError": """NobodyKeeps(), NotHeld(), CommandFailed(position), LabelTaken(label), NameTaken(name),
        NoneHasThem(), NotAlone(), NotPlainlyHeld(), NothingToRedo(), NothingToUndo(), UnlikeFunctions(),
        UnlikeLetters()""",
    "LimitError": "TooMany(what, limit)",
}
BASES = {"BookError": ValueError, "MissingError": LookupError, "StateError": RuntimeError,
         "LimitError": ArithmeticError}


def told_classes():
    """The tuples (name, base, attributes) of all classes with a constructor of their own."""
    found = []
    for base, text in TOLD.items():
        for name, words in re.findall(r"(\w+)\(([\w, ]*)\)", text):
            found.append((name, base, re.findall(r"\w+", words)))
    return found


class Errors(unittest.TestCase):
    def test_bases(self):
        for name, base in BASES.items():
            self.assertEqual(getattr(errors, name).__bases__, (base,))

    def test_direct_subclasses(self):
        self.assertEqual(len(told_classes()), 41 + 2 + 12 + 1)
        for name, base, _ in told_classes():
            self.assertEqual(getattr(errors, name).__bases__, (getattr(errors, base),), name)

    def test_no_others(self):
        names = sorted(list(BASES) + [name for name, _, _ in told_classes()])
        self.assertEqual(sorted(name for name in vars(errors) if name[0].isupper()), names)
        for name in names:
            self.assertEqual(getattr(errors, name).__module__, "soughtrows.errors")

    def test_attributes(self):
        things = [None, True, 0, -1, "", "word", [], [1, [2]], (), {}, object(), Ratio(1, 2), int, KeyError()]
        for name, _, attributes in told_classes():
            made = getattr(errors, name)
            for at in range(len(things)):
                passed = [things[(at + k) % len(things)] for k in range(len(attributes))]
                for error in [made(*passed), made(**dict(zip(attributes, passed)))]:
                    for attribute, value in zip(attributes, passed):
                        self.assertIs(getattr(error, attribute), value)

    def test_constructors_are_their_own(self):
        for name, _, attributes in told_classes():
            if attributes:
                own = vars(getattr(errors, name))["__init__"].__code__
                self.assertEqual(list(own.co_varnames[1:own.co_argcount]), attributes)

    def test_raised_and_caught(self):
        for name, base, attributes in told_classes():
            with self.assertRaises(getattr(errors, base)) as caught:
                raise getattr(errors, name)(*range(len(attributes)))
            self.assertIsInstance(caught.exception, BASES[base])


if __name__ == "__main__":
    unittest.main()
