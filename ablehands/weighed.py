"""Whole works with weights: the least greatest load there can be, and the bars that show it."""

from ablehands.blocks import is_within, sets_of
from ablehands.books import is_whole, need_deal
from ablehands.errors import TooMany
from ablehands.weights import need_weights

FEW_HANDS = 4
FEW_WORKS = 7


def weights_dealt(hands, weights, some):
    """For each hand the weights that a deal, or the beginning of one, gives it."""
    told = [0] * hands
    for hand, weight in zip(some, weights):
        told[hand] += weight
    return tuple(told)


def weighed_loads(book, weights, deal):
    """For each hand the sum of its works' weights."""
    need_deal(book, deal)
    need_weights(book, weights)
    return weights_dealt(book[0], weights, deal)


def need_few(book, weights):
    """Refuse what is no book, then what are no weights of it, then a book too great to go through its deals."""
    need_weights(book, weights)
    if book[0] > FEW_HANDS or len(book[1]) > FEW_WORKS:
        raise TooMany("a book of at most four hands and seven works is asked for")


def weights_behind(book, weights):
    """For each length of a bar a list of tuples (some, weight).

    Some is a set of hands, the weight that of the works behind the bar that are able in the set alone.
    """
    rows = list(zip(book[1], weights))
    sets = sets_of(list(range(book[0])))
    told = []
    for many in range(len(rows) + 1):
        behind = rows[many:]
        told.append([(some, sum([heft for able, heft in behind if is_within(able, some)])) for some in sets])
    return told


def shows(behind, dealt, number):
    """Whether some set of hands has more weight than its hands' number times (number - 1)."""
    return any([sum([dealt[hand] for hand in some]) + heft > len(some) * (number - 1) for some, heft in behind])


def gone_through(book, weights, number):
    """(most, deal, bars): of the deals whose greatest load is below the number one that has the least, most.

    Where there is no such deal, most is the number, the deal None, and the bars are of that number.
    """
    rows = weights_behind(book, weights)
    most = number
    deal = None
    bars = []
    waiting = [()]
    while waiting:
        bar = waiting.pop()
        dealt = weights_dealt(book[0], weights, bar)
        if shows(rows[len(bar)], dealt, most):
            # What shows a number shows each lesser one, so this stays a bar when most becomes less.
            bars.append(bar)
        elif len(bar) < len(weights):
            waiting.extend([bar + (hand,) for hand in book[1][len(bar)][::-1]])
        else:
            most = max(dealt)
            deal = bar
            bars.append(bar)
    return (most, deal, bars)


def least_most(book, weights):
    """(most, deal, bars): the least greatest load, a deal that has it, and bars that show it."""
    need_few(book, weights)
    most, deal, bars = gone_through(book, weights, sum(weights) + 1)
    # With most known from the start the bars are fewer and shorter.
    return (most, deal, gone_through(book, weights, most)[2])


def begins_deal(book, thing):
    """Whether the thing is a tuple of able hands for the first works in order."""
    if not isinstance(thing, tuple) or len(thing) > len(book[1]):
        return False
    return all([is_whole(hand) and hand in able for hand, able in zip(thing, book[1])])


def begin_each_deal(book, bars):
    """Whether each deal begins with one of the bars, all of which begin deals."""
    barred = {bar: True for bar in bars}
    free = [] if () in barred else [()]
    for able in book[1]:
        longer = [begun + (hand,) for begun in free for hand in able]
        free = [begun for begun in longer if begun not in barred]
    return len(free) == 0


def do_show(book, weights, bars, number):
    """Whether the list, of any tuples of whole numbers, shows that no deal has a greatest load below the number."""
    need_few(book, weights)
    if not isinstance(bars, list) or not is_whole(number):
        return False
    if not all([begins_deal(book, bar) for bar in bars]) or not begin_each_deal(book, bars):
        return False
    rows = weights_behind(book, weights)
    return all([shows(rows[len(bar)], weights_dealt(book[0], weights, bar), number) for bar in bars])
