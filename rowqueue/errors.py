"""The errors of the package. Each keeps the arguments of its constructor as fields."""


class QueueError(ValueError):
    """The base of all errors of the package."""


class Wrong(QueueError):
    """The argument at this place is not as described."""

    def __init__(self, place):
        self.place = place


class BadLine(QueueError):
    """The item at this index is no line of a setting, or has the word of an earlier one."""

    def __init__(self, at):
        self.at = at


class NoPlan(QueueError):
    """What should write a plan writes none."""


class BadRow(QueueError):
    """The item at this index is no row of a scene."""

    def __init__(self, at):
        self.at = at


class Past(QueueError):
    """This time is before the time of the queue."""

    def __init__(self, now):
        self.now = now


class Known(QueueError):
    """There is a row with this name already."""

    def __init__(self, name):
        self.name = name


class NoRow(QueueError):
    """There is no row with this name."""

    def __init__(self, name):
        self.name = name


class NoOrigin(QueueError):
    """There is no row with this name that could be an origin."""

    def __init__(self, name):
        self.name = name


class Stale(QueueError):
    """The token for the row with this name is not valid."""

    def __init__(self, name):
        self.name = name


class TooMany(QueueError):
    """There are more than this limit."""

    def __init__(self, limit):
        self.limit = limit


class NoForm(QueueError):
    """The scene is none of those for which there are forms."""


class Unlike(QueueError):
    """The scenes have not as many workers and rows."""


class NoWeaving(QueueError):
    """No weaving has this number."""

    def __init__(self, number):
        self.number = number


class Stopped(QueueError):
    """What is done again, or read, stops at this index."""

    def __init__(self, at):
        self.at = at


class Nothing(QueueError):
    """There is nothing to take back or to do again."""


class NoText(QueueError):
    """What should be the text of a transaction is none."""


class NoCommand(QueueError):
    """What should be a line for a desk is none."""
