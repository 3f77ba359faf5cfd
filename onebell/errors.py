"""The refusals of Onebell, one class for each reason."""


class BellError(ValueError):
    """Any refusal."""


class BadCount(BellError):
    """A house cannot have so many hands."""


class NoHand(BellError):
    """What is told is no hand of the house."""


class NoLetter(BellError):
    """What is told is no letter that was sent."""


class NoMail(BellError):
    """No mail under way stands at the place that is told."""


class Twice(BellError):
    """The desk has met the letter before."""


class NotOpen(BellError):
    """The letter does not wait with an open mark."""


class BadMark(BellError):
    """The mark is less than the proposed one."""


class NoNote(BellError):
    """The text is not that of a mail."""
