"""Whole loads beside those in parts."""

from ablehands.books import need_book
from ablehands.parts import part_loads


def beside(book):
    """For each hand (low, high), between which its load in parts lies where each weight is 1."""
    need_book(book)
    loads = part_loads(book, (1,) * len(book[1]))
    return [(a // b, (a + b - 1) // b) for a, b in loads]
