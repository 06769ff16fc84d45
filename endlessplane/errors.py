"""The errors of the package; each bears the one value that it is made from."""


class PlaneError(ValueError):
    """The base class of what is wrong with an argument."""


class BadPart(PlaneError):
    """An argument, or a part of what is told, has not its form: part is the word for it."""

    def __init__(self, part):
        self.part = part


class BadNumber(PlaneError):
    """A number that does not fit: number is the wrong value."""

    def __init__(self, number):
        self.number = number


class BadIndex(PlaneError):
    """An item of a list that does not fit: index is its index."""

    def __init__(self, index):
        self.index = index


class BadName(PlaneError):
    """A name that does not fit: name is the wrong value."""

    def __init__(self, name):
        self.name = name


class NotSo(PlaneError):
    """What is asked supposes something that is not so: word tells what."""

    def __init__(self, word):
        self.word = word


class BadText(PlaneError):
    """A text that has not its form: line is the index of the line."""

    def __init__(self, line):
        self.line = line


class TooMany(OverflowError):
    """More than can be taken: limit is the most that can."""

    def __init__(self, limit):
        self.limit = limit


class NothingToUndo(RuntimeError):
    """There is nothing to take back or to do again: name tells what is missing."""

    def __init__(self, name):
        self.name = name
