"""Works dealt in parts, with weights."""

from ablehands.blocks import blocks
from ablehands.fractions import is_fraction, is_less, lowest, total
from ablehands.reaching import reached, way_to
from ablehands.weights import need_weights

# A load in parts is a weight over the number of hands in a block, and 60 can be parted among each of 1 to 6.
UNITS = 60


def handing_parts(takers, held, many):
    """For each of so many hands a dict: from each hand that may take a part of what it holds, to the work."""
    rows = [{} for hand in range(many)]
    for work, row in enumerate(held):
        for giver in row:
            if row[giver] > 0:
                for taker in takers[work]:
                    rows[giver][taker] = work
    return rows


def spread(takers, amounts, rooms):
    """For each work a dict from hands to how many units they hold of it, no hand more than its room in all."""
    # At first nobody, a hand behind the last one, holds all; shortest ways lead it to hands with room.
    nobody = len(rooms)
    rooms = rooms + [0]
    held = [{nobody: amount} for amount in amounts]
    while any([row[nobody] > 0 for row in held]):
        found = reached(handing_parts(takers, held, len(rooms)), nobody)
        last = [hand for hand in found if rooms[hand] > 0][0]
        some = way_to(found, last)
        units = min([rooms[last]] + [held[work][giver] for work, giver, taker in some])
        rooms[last] -= units
        for work, giver, taker in some:
            held[work][giver] -= units
            held[work][taker] = held[work].get(taker, 0) + units
    return held


def least_loaded(able, loads):
    """Those of the able hands whose load is no greater than that of any of them."""
    return [hand for hand in able if not any([is_less(loads[other], loads[hand]) for other in able])]


def part_loads(book, weights):
    """For each hand its load in parts."""
    load_of = {hand: load for some, load in blocks(book, weights) for hand in some}
    return tuple([load_of[hand] for hand in range(book[0])])


def in_parts(book, weights):
    """The loads in parts, and level shares."""
    loads = part_loads(book, weights)
    takers = [least_loaded(able, loads) for able in book[1]]
    rooms = [a * UNITS // b for a, b in loads]
    held = spread(takers, [weight * UNITS for weight in weights], rooms)
    shares = [tuple([lowest(row.get(hand, 0), UNITS) for hand in range(book[0])]) for row in held]
    return (loads, shares)


def is_share_row(hands, able, weight, row):
    """Whether the row parts a work's weight among its able hands."""
    if not isinstance(row, tuple) or len(row) != hands:
        return False
    if not all([is_fraction(part) for part in row]):
        return False
    if any([part[0] > 0 and hand not in able for hand, part in enumerate(row)]):
        return False
    return total(row) == (weight, 1)


def are_shares(book, weights, shares):
    """Whether the list, of anything, holds shares of the works."""
    need_weights(book, weights)
    if not isinstance(shares, list) or len(shares) != len(weights):
        return False
    rows = list(zip(book[1], weights, shares))
    return all([is_share_row(book[0], able, weight, row) for able, weight, row in rows])


def are_level(book, weights, shares):
    """Whether the list, of anything, holds shares of the works, and level ones."""
    if not are_shares(book, weights, shares):
        return False
    loads = tuple([total([row[hand] for row in shares]) for hand in range(book[0])])
    for able, row in zip(book[1], shares):
        least = least_loaded(able, loads)
        if any([part[0] > 0 and hand not in least for hand, part in enumerate(row)]):
            return False
    return True
