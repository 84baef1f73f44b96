"""The errors of all stages."""


class SortError(ValueError):
    """Every error that Selfsort raises is one of these."""


class NoItems(SortError):
    """A number of items was expected."""


class NoOrder(SortError):
    """An order was expected."""


class NoItem(SortError):
    """An item was expected."""


class NoPlace(SortError):
    """A place to move to was expected."""


class NoRule(SortError):
    """A rule was expected."""


class NoStanding(SortError):
    """A standing of a rule was expected."""


class NoAsks(SortError):
    """A tuple of items to ask for was expected."""


class NoRules(SortError):
    """Rules were expected."""


class NoCase(SortError):
    """A case of rules was expected."""


class NoLot(SortError):
    """A lot of rules was expected."""


class NoGoal(SortError):
    """A goal of rules was expected."""


class NoLog(SortError):
    """A log was expected."""


class NoNumber(SortError):
    """A number within given limits was expected."""


class NoName(SortError):
    """The name of a rule was expected."""


class NoRecord(SortError):
    """A record was expected."""


class NoSeeker(SortError):
    """The number of a seeker was expected."""


# The texts of the following errors leave out the value that the error keeps:
# Python refuses to write very long integers as text.


class NoAnswer(SortError):
    """The value answer is not one of the answers."""

    def __init__(self, answer):
        super().__init__("not one of the answers")
        self.answer = answer


class NoMark(SortError):
    """The value number is not the number of a mark."""

    def __init__(self, number):
        super().__init__("not the number of a mark")
        self.number = number


class TooMany(SortError):
    """There are more than the limit allows."""

    def __init__(self, limit):
        super().__init__("more than the limit allows")
        self.limit = limit
