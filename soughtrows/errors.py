"""The errors of the package; their attributes hold what was passed, so that callers need not read messages."""


class BookError(ValueError):
    """What was passed is not valid."""


class InvalidArgument(BookError):
    def __init__(self, value):
        self.value = value


class InvalidBlend(BookError):
    def __init__(self, value):
        self.value = value


class InvalidBook(BookError):
    def __init__(self, value):
        self.value = value


class InvalidCourse(BookError):
    def __init__(self, value):
        self.value = value


class InvalidFilling(BookError):
    def __init__(self, value):
        self.value = value


class InvalidFunction(BookError):
    def __init__(self, value):
        self.value = value


class InvalidLetters(BookError):
    def __init__(self, value):
        self.value = value


class InvalidLine(BookError):
    def __init__(self, value):
        self.value = value


class InvalidNumber(BookError):
    def __init__(self, value):
        self.value = value


class InvalidPlace(BookError):
    def __init__(self, value):
        self.value = value


class InvalidWhole(BookError):
    def __init__(self, value):
        self.value = value


class DividedByZero(BookError):
    """A number is to be divided by 0."""


class InvalidClaim(BookError):
    def __init__(self, value):
        self.value = value


class InvalidCommand(BookError):
    def __init__(self, value):
        self.value = value


class InvalidDeeds(BookError):
    def __init__(self, position):
        self.position = position


class InvalidFunctions(BookError):
    def __init__(self, value):
        self.value = value


class InvalidGoal(BookError):
    def __init__(self, value):
        self.value = value


class InvalidGoals(BookError):
    def __init__(self, value):
        self.value = value


class InvalidHigh(BookError):
    def __init__(self, value):
        self.value = value


class InvalidLines(BookError):
    def __init__(self, value):
        self.value = value


class InvalidLow(BookError):
    def __init__(self, value):
        self.value = value


class InvalidMany(BookError):
    def __init__(self, value):
        self.value = value


class InvalidMore(BookError):
    def __init__(self, value):
        self.value = value


class InvalidNumbers(BookError):
    def __init__(self, value):
        self.value = value


class InvalidOrder(BookError):
    def __init__(self, value):
        self.value = value


class InvalidPaper(BookError):
    def __init__(self, value):
        self.value = value


class InvalidParts(BookError):
    def __init__(self, value):
        self.value = value


class InvalidPeriod(BookError):
    def __init__(self, value):
        self.value = value


class InvalidPosition(BookError):
    def __init__(self, value):
        self.value = value


class InvalidPuts(BookError):
    def __init__(self, value):
        self.value = value


class InvalidRest(BookError):
    def __init__(self, value):
        self.value = value


class InvalidRows(BookError):
    def __init__(self, value):
        self.value = value


class InvalidShapes(BookError):
    def __init__(self, value):
        self.value = value


class InvalidSheet(BookError):
    def __init__(self, value):
        self.value = value


class InvalidSort(BookError):
    def __init__(self, value):
        self.value = value


class InvalidSpots(BookError):
    def __init__(self, value):
        self.value = value


class InvalidTables(BookError):
    def __init__(self, value):
        self.value = value


class InvalidTerms(BookError):
    def __init__(self, value):
        self.value = value


class InvalidText(BookError):
    def __init__(self, line):
        self.line = line


class InvalidValue(BookError):
    def __init__(self, value):
        self.value = value


class InvalidValues(BookError):
    def __init__(self, value):
        self.value = value


class MissingError(LookupError):
    """Nothing is kept, or noted, under what was passed."""


class UnknownLabel(MissingError):
    def __init__(self, value):
        self.value = value


class UnknownName(MissingError):
    def __init__(self, value):
        self.value = value


class StateError(RuntimeError):
    """What was passed is valid, but does not allow what is asked."""


class NobodyKeeps(StateError):
    """No filling keeps the book."""


class NotHeld(StateError):
    """The book does not hold what it has to hold."""


class CommandFailed(StateError):
    def __init__(self, position):
        self.position = position


class LabelTaken(StateError):
    def __init__(self, label):
        self.label = label


class NameTaken(StateError):
    def __init__(self, name):
        self.name = name


class NoneHasThem(StateError):
    """No filling that keeps the book has the told values."""


class NotAlone(StateError):
    """The term does not stand alone in its line."""


class NotPlainlyHeld(StateError):
    """The book does not hold all its functions plainly."""


class NothingToRedo(StateError):
    """No deed was taken back that can be done again."""


class NothingToUndo(StateError):
    """No deed is left that can be taken back."""


class UnlikeFunctions(StateError):
    """The books have not as many functions."""


class UnlikeLetters(StateError):
    """The lines have not as many letters."""


class LimitError(ArithmeticError):
    """More is asked than the package takes on."""


class TooMany(LimitError):
    def __init__(self, what, limit):
        self.what = what
        self.limit = limit
