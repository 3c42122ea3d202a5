"""Hands that have room for so many works alone, and works that are left out for it."""

from ablehands.blocks import is_within
from ablehands.books import is_whole, is_work, need_book
from ablehands.errors import NoRooms
from ablehands.reaching import handing, reached, way_to

MOST_ROOM = 12


def are_rooms(book, thing):
    """Whether the thing, which may be anything, holds rooms for the hands of the book."""
    need_book(book)
    if not isinstance(thing, tuple) or len(thing) != book[0]:
        return False
    return all([is_whole(room) and 0 <= room <= MOST_ROOM for room in thing])


def need_rooms(book, rooms):
    """Refuse what is no book, then what are no rooms of its hands."""
    if not are_rooms(book, rooms):
        raise NoRooms("these are no rooms of the book's hands")


def in_rooms(book, rooms):
    """(deal, some): a deal that leaves out as few works as can be, and hands that show it."""
    need_rooms(book, rooms)
    hands, works = book
    # At first nobody, a hand behind the last one, has all; shortest ways lead works to hands with room.
    deal = [hands] * len(works)
    while True:
        found = reached(handing((hands + 1, works), deal), hands)
        free = [hand for hand in found if hand < hands and deal.count(hand) < rooms[hand]]
        if len(free) == 0:
            break
        for work, giver, taker in way_to(found, free[0]):
            deal[work] = taker
    # The hands that works left out lead to are full, and no work that they have is able anywhere else.
    some = tuple([hand for hand in range(hands) if hand in found])
    return (tuple([hand if hand < hands else None for hand in deal]), some)


def is_in_rooms(book, rooms, thing):
    """Whether the thing, which may be anything, is a deal with these rooms."""
    need_rooms(book, rooms)
    if not isinstance(thing, tuple) or len(thing) != len(book[1]):
        return False
    for hand, able in zip(thing, book[1]):
        if hand is not None and not (is_whole(hand) and hand in able):
            return False
    return all([thing.count(hand) <= room for hand, room in enumerate(rooms)])


def do_bar(book, rooms, some, number):
    """Whether the tuple, of any whole numbers, holds hands that show that so many works, or more, are left out."""
    need_rooms(book, rooms)
    if not is_whole(number) or some != () and not is_work(book[0], some):
        return False
    alone = len([able for able in book[1] if is_within(able, some)])
    return alone - sum([rooms[hand] for hand in some]) >= number
