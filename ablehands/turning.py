"""Levels, which show that a deal is evenest, and the ways that turn another deal into such a one."""

from ablehands.books import is_whole, need_book
from ablehands.loads import loads
from ablehands.reaching import handing, reached, way_to
from ablehands.ways import gone


def are_levels(book, deal, levels):
    """Whether the tuple, of any whole numbers, holds levels of the deal."""
    many = loads(book, deal)
    if not isinstance(levels, tuple) or len(levels) != len(many):
        return False
    for level, load in zip(levels, many):
        if not is_whole(level) or level not in (load, load - 1):
            return False
    return all([levels[hand] <= levels[other] for hand, able in zip(deal, book[1]) for other in able])


def levels_or_way(book, deal):
    """("levels", levels) of an evenest deal, ("way", one that betters) of any other."""
    many = loads(book, deal)
    rows = handing(book, deal)
    levels = []
    for hand in range(book[0]):
        found = reached(rows, hand)
        last = min(found, key=lambda other: many[other])
        if many[hand] - many[last] >= 2:
            return ("way", way_to(found, last))
        # Whatever the taker of a work leads to its giver leads to as well, so this level never falls on a way.
        levels.append(many[last])
    return ("levels", tuple(levels))


def bettered(book, deal):
    """Ways, each of which betters the deal behind those ahead of it, and the evenest deal behind them all."""
    ways = []
    word, shown = levels_or_way(book, deal)
    while word == "way":
        ways.append(shown)
        deal = gone(book, deal, shown)
        word, shown = levels_or_way(book, deal)
    # Where no way was gone this is still the asker's tuple, and what is told must be a new one.
    return (ways, tuple([hand for hand in deal]))


def evenest(book):
    """An evenest deal, and levels of it."""
    need_book(book)
    ways, deal = bettered(book, tuple([able[0] for able in book[1]]))
    return (deal, levels_or_way(book, deal)[1])
