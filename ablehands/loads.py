"""The loads of a deal, and which deal is no less even than another one."""

from ablehands.books import need_deal


def counted(hands, deal):
    """For each of so many hands how many works it has; the deal has been looked at already."""
    return tuple([deal.count(hand) for hand in range(hands)])


def loads(book, deal):
    """For each hand how many works it has."""
    need_deal(book, deal)
    return counted(book[0], deal)


def falling(book, deal):
    """The loads, the greatest first."""
    return sorted(loads(book, deal), reverse=True)


def no_less_even(book, one, other):
    """Whether the greatest loads of the one, k of them together, are no more than the other's, for each k."""
    spare = 0
    for mine, yours in zip(falling(book, one), falling(book, other)):
        spare += yours - mine
        if spare < 0:
            return False
    return True


def waits(book, deal):
    """The sum of 1 + 2 + .. + load over all hands."""
    return sum([load * (load + 1) // 2 for load in loads(book, deal)])
