"""Weights of the works of a book: what are some, and the refusal of what are none."""

from ablehands.books import is_whole, need_book
from ablehands.errors import NoWeights

MOST_WEIGHT = 99


def are_weights(book, thing):
    """Whether the thing, which may be anything, holds weights for the works of the book."""
    need_book(book)
    if not isinstance(thing, tuple) or len(thing) != len(book[1]):
        return False
    return all([is_whole(weight) and 0 <= weight <= MOST_WEIGHT for weight in thing])


def need_weights(book, weights):
    """Refuse what is no book, then what are no weights of it."""
    if not are_weights(book, weights):
        raise NoWeights("these are no weights of the book's works")
