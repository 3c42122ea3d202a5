"""The hands parted by their loads in parts."""

from ablehands.fractions import lowest
from ablehands.weights import need_weights


def is_within(able, some):
    """Whether all of these hands are among those."""
    return all([hand in some for hand in able])


def sets_of(hands):
    """All sets of the hands but the empty one, as tuples that rise where the hands do."""
    sets = [()]
    for hand in hands:
        sets = sets + [some + (hand,) for some in sets]
    return sets[1:]


def heaviest(hands, rows):
    """The set whose works weigh most by the hand, of several the one with the most hands; and their weight.

    Rows are tuples (able, weight); a set's works are those able in it alone.
    """
    best = ()
    most = 0
    for some in sets_of(hands):
        weight = sum([heft for able, heft in rows if is_within(able, some)])
        more = weight * len(best) - most * len(some)
        if more > 0 or more == 0 and len(some) > len(best):
            best = some
            most = weight
    return (best, most)


def blocks(book, weights):
    """Tuples (some, load): the hands with this load in parts, the greatest load first."""
    need_weights(book, weights)
    left = list(range(book[0]))
    rows = list(zip(book[1], weights))
    told = []
    while left:
        some, weight = heaviest(left, rows)
        told.append((some, lowest(weight, len(some))))
        left = [hand for hand in left if hand not in some]
        # A work that is able outside goes there, where loads are less.
        rows = [(able, heft) for able, heft in rows if not is_within(able, some)]
        rows = [(tuple([hand for hand in able if hand not in some]), heft) for able, heft in rows]
    return told


def first_set(book, weights):
    """The greatest set of hands whose works weigh most by the hand."""
    return blocks(book, weights)[0][0]
