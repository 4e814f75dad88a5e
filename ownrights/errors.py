"""All errors of the package. No message is made of the fields, because they may be any values."""


class RightError(ValueError):
    """The base class of all errors of the package."""


class PaperError(RightError):
    """A paper, or a store, does not show what it has to show."""


class StoreError(RightError):
    """A value does not fit a store."""


class ServiceError(RightError):
    """A live store cannot do what it is asked for."""


class TextError(RightError):
    """A text cannot be read."""


class InvalidPaper(PaperError):
    """The first thing that is wrong, and where."""

    def __init__(self, word, at):
        self.word = word
        self.at = at


class UnfitRule(StoreError):
    """The first part of an expression that is wrong, by its path."""

    def __init__(self, path):
        self.path = path


class InvalidSums(StoreError):
    """What is wrong with sums, and where."""

    def __init__(self, word, at):
        self.word = word
        self.at = at


class InvalidFamily(StoreError):
    """What is wrong with a family, and where."""

    def __init__(self, word, at):
        self.word = word
        self.at = at


class UnknownHand(StoreError):
    """A value that is no hand of the store."""

    def __init__(self, hand):
        self.hand = hand


class UnknownDeed(StoreError):
    """A value that is the key of no deed of the store."""

    def __init__(self, deed):
        self.deed = deed


class InvalidEvent(ServiceError):
    """An event that is not possible, and why."""

    def __init__(self, event, reason):
        self.event = event
        self.reason = reason


class NothingToUndo(ServiceError):
    """There are fewer events than steps to take back."""

    def __init__(self, steps):
        self.steps = steps


class InvalidText(TextError):
    """The first line that is not possible, and its first word that is not."""

    def __init__(self, line, field):
        self.line = line
        self.field = field


class InvalidRow(TextError):
    """A row that a desk does not take."""

    def __init__(self, row):
        self.row = row
