"""The exceptions of the program."""


class WatchError(ValueError):
    """What all exceptions of the program are."""


class UnitsError(WatchError):
    """These are not the units of a plan."""


class TestsError(WatchError):
    """These are not tests, or this is not a test, of a plan."""


class PlanError(WatchError):
    """This is not a plan."""


class SetError(WatchError):
    """This is not a set of units of the plan."""


class ReportsError(WatchError):
    """These are not reports of the plan."""


class NumberError(WatchError):
    """This is not a number that may stand here."""


class VerdictError(WatchError):
    """This is not a verdict, or not a bool that one is about."""


class TextError(WatchError):
    """This is not the text of a plan."""


class NoneError(WatchError):
    """No set explains the reports."""


class WeakError(WatchError):
    """The plan does not find so many bad units."""


class NothingError(WatchError):
    """There is nothing to be taken back."""


class ApartError(WatchError):
    """A test tells two sets apart; number is the number of the test."""

    def __init__(self, number):
        super().__init__(f"test {number} tells the sets apart")
        self.number = number


class LimitError(WatchError):
    """An amount is greater than the limit for it."""

    def __init__(self, amount, limit):
        super().__init__(f"{amount} is more than the limit {limit}")
        self.amount = amount
        self.limit = limit
