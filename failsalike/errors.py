"""The errors of the package; what an error is made of stays with it as attributes."""


class FailsError(Exception):
    """The base class of all errors of the package."""


class Failed(FailsError):
    """An operation of a question fails: with this word, at this place, at these rows."""

    def __init__(self, word, place, numbers):
        self.word = word
        self.place = place
        self.numbers = numbers


class NameTaken(FailsError):
    """There is a table with this name."""

    def __init__(self, name):
        self.name = name


class BadTable(FailsError):
    """This part of a table does not have the form that it must have."""

    def __init__(self, part):
        self.part = part


class NoTable(FailsError):
    """There is no table with this name."""

    def __init__(self, name):
        self.name = name


class NoColumn(FailsError):
    """There is no column, or no index, with this name."""

    def __init__(self, name):
        self.name = name


class BadRow(FailsError):
    """What stands in this column of a row is no value for it."""

    def __init__(self, column):
        self.column = column


class KeyTaken(FailsError):
    """A row has the same value in this column, which is a key."""

    def __init__(self, column):
        self.column = column


class NoRow(FailsError):
    """There is no row with this number."""

    def __init__(self, number):
        self.number = number


class NoQuestion(FailsError):
    """This is no question for the schema, or not one that goes with the other."""

    def __init__(self):
        pass


class NotPlain(FailsError):
    """The question is not plain, so there are no ledgers about it."""

    def __init__(self):
        pass


class TooGreat(FailsError):
    """More parts than this limit were built."""

    def __init__(self, limit):
        self.limit = limit


class NoPlan(FailsError):
    """This is no accepted plan for the question."""

    def __init__(self):
        pass


class Outdated(FailsError):
    """This named fact of a plan is not so on the store."""

    def __init__(self, fact):
        self.fact = fact


class NoGoal(FailsError):
    """No goal of the question has this number."""

    def __init__(self, number):
        self.number = number


class NoCourse(FailsError):
    """No course of the plan has this number."""

    def __init__(self, number):
        self.number = number


class InvalidText(FailsError):
    """This is not the text of a question, or of a store."""

    def __init__(self):
        pass


class InvalidCommand(FailsError):
    """This does not have the form of a command."""

    def __init__(self):
        pass


class NothingAsked(FailsError):
    """The command needs a question, and there is none."""

    def __init__(self):
        pass


class NoRun(FailsError):
    """The command needs a run, and there is none."""

    def __init__(self):
        pass
