"""What all evenest deals of a book have: the hands of each work, the loads of each hand, how many deals there are."""

from ablehands.loads import falling
from ablehands.turning import bettered, evenest


def is_as_even(book, deal, work, hand):
    """Whether some deal in which the hand has the work is as even as this evenest one."""
    hands, works = book
    narrow = (hands, works[:work] + ((hand,),) + works[work + 1:])
    ways, best = bettered(narrow, deal[:work] + (hand,) + deal[work + 1:])
    return falling(narrow, best) == falling(book, deal)


def may_go(book):
    """For each work the rising tuple of hands that have it in some evenest deal."""
    deal = evenest(book)[0]
    told = []
    for work, able in enumerate(book[1]):
        told.append(tuple([hand for hand in able if is_as_even(book, deal, work, hand)]))
    return told


def with_work(rows, takers, levels):
    """Rows, a dict from loads to how many deals have them, with one work more for one of the takers."""
    grown = {}
    for many in rows:
        for hand in takers:
            if many[hand] <= levels[hand]:
                key = many[:hand] + (many[hand] + 1,) + many[hand + 1:]
                grown[key] = grown.get(key, 0) + rows[many]
    return grown


def even_loads(book):
    """A dict from the loads that evenest deals have to how many evenest deals have them."""
    # Levels of one evenest deal are levels of each: so only deals with these levels are counted.
    levels = evenest(book)[1]
    rows = {(0,) * book[0]: 1}
    for able in book[1]:
        least = min([levels[hand] for hand in able])
        rows = with_work(rows, [hand for hand in able if levels[hand] == least], levels)
    return {many: rows[many] for many in rows if all([load >= level for load, level in zip(many, levels)])}


def may_have(book):
    """For each hand the rising tuple of loads that it has in some evenest deal."""
    rows = even_loads(book)
    return [tuple(sorted({many[hand] for many in rows})) for hand in range(book[0])]


def how_many(book):
    """How many evenest deals there are."""
    return sum(even_loads(book).values())
