"""Whole works rounded from level shares."""

from ablehands.fractions import lowest, plus
from ablehands.parts import in_parts, spread


def places_of(hand, weights, shares):
    """A dict from the works that the hand has a share of to lists of its places 0, 1, .. which that share lies in.

    Works lie there as the parts of them that the hand has, the heaviest first, and each place holds 1 in all. So
    one work from each place is no more than the places ahead of it held, but for the first: it adds a work at most.
    """
    works = [work for work, row in enumerate(shares) if row[hand][0] > 0]
    told = {}
    filled = (0, 1)
    for work in sorted(works, key=lambda one: -weights[one]):
        a, b = shares[work][hand]
        behind = plus(filled, lowest(a, b * weights[work]))
        told[work] = list(range(filled[0] // filled[1], (behind[0] + behind[1] - 1) // behind[1]))
        filled = behind
    return told


def rounded(book, weights):
    """A deal in which no hand has as much as its load in parts and the greatest weight together."""
    shares = in_parts(book, weights)[1]
    hands, works = book
    places = [places_of(hand, weights, shares) for hand in range(hands)]
    # A hand has no more places than there are works, so this numbers the places of all hands apart.
    takers = [[hand * len(works) + place for hand in range(hands) for place in places[hand].get(work, [])]
              for work in range(len(works))]
    held = spread(takers, [min(weight, 1) for weight in weights], [1] * (hands * len(works)))
    # A work without weight lies in no place, and any able hand may have it.
    told = [able[0] for able in works]
    for work, row in enumerate(held):
        for place in row:
            if row[place] > 0:
                told[work] = place // len(works)
    return tuple(told)
