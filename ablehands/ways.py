"""Ways of handing works on: what is one, the deal behind it, and whether it betters."""

from ablehands.books import is_whole, need_deal
from ablehands.errors import NoWay
from ablehands.loads import loads


def is_step(book, deal, step):
    """Whether the step hands a work on, from the hand that has it to another able one."""
    if not isinstance(step, tuple) or len(step) != 3:
        return False
    if not all([is_whole(part) for part in step]):
        return False
    work, giver, taker = step
    # A number below nought would count from the end.
    if not 0 <= work < len(deal):
        return False
    return deal[work] == giver and taker != giver and taker in book[1][work]


def is_way(book, deal, some):
    """Whether the list, of any tuples of whole numbers, is a way of the deal."""
    need_deal(book, deal)
    if not isinstance(some, list) or len(some) == 0:
        return False
    if not all([is_step(book, deal, step) for step in some]):
        return False
    passed = [some[0][1]] + [step[2] for step in some]
    # The first hand stands ahead of the takers, so each step meets the hand that it must go from.
    follow = all([step[1] == hand for step, hand in zip(some, passed)])
    return follow and len(set(passed)) == len(passed)


def need_way(book, deal, some):
    """Refuse what is no book, then what is no deal of it, then what is no way of the deal."""
    if not is_way(book, deal, some):
        raise NoWay("this is no way of the deal")


def gone(book, deal, some):
    """The deal behind the way."""
    need_way(book, deal, some)
    behind = list(deal)
    for work, giver, taker in some:
        behind[work] = taker
    return tuple(behind)


def betters(book, deal, some):
    """Whether the way goes from a hand to one whose load is less by 2 or more."""
    need_way(book, deal, some)
    many = loads(book, deal)
    return many[some[0][1]] - many[some[-1][2]] >= 2
