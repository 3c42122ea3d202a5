"""Books and fractions written as texts, and books read from them."""

from ablehands.books import is_book, need_book
from ablehands.errors import NoBook, NoText

FIGURES = "0123456789"
MOST_FIGURES = 6


def is_number(word):
    """Whether the word is a number as texts and rows have it."""
    if not 1 <= len(word) <= MOST_FIGURES or word[0] == "0" and word != "0":
        return False
    return all([sign in FIGURES for sign in word])


def show_book(book):
    """The book as a text."""
    need_book(book)
    hands, works = book
    rows = [" ".join([str(hand) for hand in able]) for able in works]
    return "; ".join([f"hands {hands}"] + rows)


def read_book(text):
    """The book that the text writes."""
    if not isinstance(text, str):
        raise NoText("this is no text")
    rows = [row.split(" ") for row in text.split("; ")]
    first, *others = rows
    if len(first) != 2 or first[0] != "hands" or not is_number(first[1]):
        raise NoText("a book's text begins with its number of hands")
    if not all([is_number(word) for row in others for word in row]):
        raise NoText("behind its hands a book's text has numbers alone")
    book = (int(first[1]), tuple([tuple([int(word) for word in row]) for row in others]))
    if not is_book(book):
        raise NoBook("this text writes no book")
    return book


def show_fraction(fraction):
    """The fraction as a text, by the numbers that it has."""
    a, b = fraction
    return f"{a}" if b == 1 else f"{a}/{b}"
