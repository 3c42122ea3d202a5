"""The refusals: each is a class right under DealError, made of a text."""


class DealError(ValueError):
    """Any refusal of this program."""


class NoBook(DealError):
    """What was handed in as a book, or as a part of one, is none."""


class NoDeal(DealError):
    """What was handed in as a deal is none of the book."""


class NoWay(DealError):
    """What was handed in as a way is none of the deal."""


class NoWeights(DealError):
    """What was handed in as weights are none of the book."""


class NoWork(DealError):
    """No work that stands has the number."""


class NoHand(DealError):
    """The last hand can't go."""


class NoRooms(DealError):
    """What was handed in as rooms are none of the book."""


class NoCosts(DealError):
    """What was handed in as costs are none of the book."""


class TooMany(DealError):
    """More works or hands than are dealt with."""


class NoText(DealError):
    """The text isn't written as a book is."""


class NoRow(DealError):
    """The row is none that a desk is told."""
