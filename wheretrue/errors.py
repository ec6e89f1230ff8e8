"""The errors that the program raises."""


class WhereError(ValueError):
    """The base class of all errors that the program raises."""


class BadSize(WhereError):
    """There are too many or too few of something, or not as many as there should be."""


class BadNumber(WhereError):
    """A coefficient is no whole number, is too great, or is a 0 at the end."""


class BadForm(WhereError):
    """A part of a formula has none of the forms of formulas."""


class BadSign(WhereError):
    """A sign is none of those that may stand there."""


class TooDeep(WhereError):
    """A part of a formula stands within too many others."""


class BadText(WhereError):
    """A text is no written form; line and column, both from 1 on, tell where it is wrong."""

    def __init__(self, line, column):
        self.line = line
        self.column = column


class NotFine(WhereError):
    """A division is not fine for a polynomial, or not finer than another division."""


class BadName(WhereError):
    """A name of a sheet is not a name, or is that of another condition."""


class UnknownName(WhereError):
    """A name is not in the sheet."""


class Circle(WhereError):
    """A name would be used by itself."""


class InUse(WhereError):
    """A name that a condition uses cannot be removed."""


class NothingToUndo(WhereError):
    """No deed is in force that could be undone."""


class NothingToRedo(WhereError):
    """No deed is undone that could be done again."""


class BadEntry(WhereError):
    """The deed of an entry of a journal raises an error; place, from 0 on, tells which."""

    def __init__(self, place):
        self.place = place
