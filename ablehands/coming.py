"""Works dealt at once, as they come."""

from ablehands.books import need_book


def as_they_come(book):
    """The deal in which each work in order went to the able hand with the least load so far."""
    need_book(book)
    many = [0] * book[0]
    deal = []
    for able in book[1]:
        # Of several the first one is told, and a work's hands rise.
        hand = min(able, key=lambda one: many[one])
        many[hand] += 1
        deal.append(hand)
    return tuple(deal)
