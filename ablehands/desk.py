"""A desk, which is told rows of words and answers each with a text."""

from ablehands.dealing import Dealing
from ablehands.errors import NoRow
from ablehands.loads import waits
from ablehands.parts import part_loads
from ablehands.texts import is_number, show_fraction


def say_put(dealing, numbers):
    """Put a work with these hands."""
    return str(dealing.put(tuple(numbers)))


def say_take(dealing, numbers):
    """Take the work with this number out."""
    dealing.take(numbers[0])
    return "ok"


def say_come(dealing, numbers):
    """One hand more."""
    return str(dealing.come())


def say_go(dealing, numbers):
    """The last hand goes."""
    dealing.go()
    return "ok"


def say_loads(dealing, numbers):
    """The loads."""
    return " ".join([str(load) for load in dealing.loads()])


def say_parts(dealing, numbers):
    """The loads in parts, where every weight is 1."""
    book = dealing.book_now()
    return " ".join([show_fraction(load) for load in part_loads(book, (1,) * len(book[1]))])


def say_deal(dealing, numbers):
    """The works that stand, each with its hand."""
    rows = [f"{number}:{hand}" for number, hand in dealing.deal().items()]
    return " ".join(rows) if rows else "none"


def say_moved(dealing, numbers):
    """How many works were moved in all."""
    return str(dealing.moved()[1])


def say_waits(dealing, numbers):
    """The sum of the waits."""
    return str(waits(dealing.book_now(), dealing.deal_now()))


DEEDS = {
    "put": say_put, "take": say_take, "come": say_come, "go": say_go, "loads": say_loads, "parts": say_parts,
    "deal": say_deal, "moved": say_moved, "waits": say_waits,
}


def is_row(words):
    """Whether the words are those of a row."""
    first, *others = words
    if not all([is_number(word) for word in others]):
        return False
    if first == "put":
        return len(others) >= 1
    if first in ("hands", "take"):
        return len(others) == 1
    return first in DEEDS and len(others) == 0


class Desk:
    """What the rows are told to; at first no dealing stands."""

    def __init__(self):
        self.dealing = None

    def say(self, row):
        """The answer to the row."""
        if not isinstance(row, str):
            raise NoRow("this is no text")
        words = row.split(" ")
        if not is_row(words):
            raise NoRow("this is no row")
        numbers = [int(word) for word in words[1:]]
        if words[0] == "hands":
            self.dealing = Dealing(numbers[0])
            return "ok"
        if self.dealing is None:
            raise NoRow("no dealing stands")
        deed = DEEDS[words[0]]
        return deed(self.dealing, numbers)
