"""Books and deals: what is one, and the refusal of what is none."""

from ablehands.errors import NoBook, NoDeal

MOST_HANDS = 6
MOST_WORKS = 12


def is_whole(thing):
    """Whether the thing is a whole number."""
    # Python counts True and False among the ints, the document doesn't.
    return isinstance(thing, int) and not isinstance(thing, bool)


def are_hands(thing):
    """Whether the thing is a number of hands that a book may have."""
    return is_whole(thing) and 1 <= thing <= MOST_HANDS


def is_work(hands, thing):
    """Whether the thing is a work of a book with so many hands."""
    if not isinstance(thing, tuple) or len(thing) == 0:
        return False
    # Hands begin at 0, so whatever rises from -1 is no number below them.
    last = -1
    for hand in thing:
        if not is_whole(hand) or hand <= last or hand >= hands:
            return False
        last = hand
    return True


def is_book(thing):
    """Whether the thing, which may be anything, is a book."""
    if not isinstance(thing, tuple) or len(thing) != 2:
        return False
    hands, works = thing
    if not are_hands(hands):
        return False
    if not isinstance(works, tuple) or len(works) > MOST_WORKS:
        return False
    return all([is_work(hands, work) for work in works])


def is_deal(book, thing):
    """Whether the thing, which may be anything, is a deal of the book."""
    need_book(book)
    works = book[1]
    if not isinstance(thing, tuple) or len(thing) != len(works):
        return False
    # A truth is found among numbers by `in`, so the kind is asked ahead of it.
    return all([is_whole(hand) and hand in able for hand, able in zip(thing, works)])


def need_book(book):
    """Refuse what is no book."""
    if not is_book(book):
        raise NoBook("this is no book")


def need_deal(book, deal):
    """Refuse what is no book, then what is no deal of it."""
    if not is_deal(book, deal):
        raise NoDeal("this is no deal of the book")
