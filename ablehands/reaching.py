"""Which hands the ways of a deal lead to. What is handed in here has been looked at already."""


def handing(book, deal):
    """For each hand a dict: from each hand that is able to take a work of it, to one such work."""
    rows = [{} for hand in range(book[0])]
    for work, (giver, able) in enumerate(zip(deal, book[1])):
        for taker in able:
            if taker != giver:
                rows[giver][taker] = work
    return rows


def reached(rows, first):
    """A dict from each hand that ways lead to, the first one too, to the last step there (of the first None)."""
    found = {first: None}
    waiting = [first]
    while waiting:
        giver = waiting.pop(0)
        for taker in rows[giver]:
            if taker not in found:
                found[taker] = (rows[giver][taker], giver, taker)
                waiting.append(taker)
    return found


def way_to(found, last):
    """The way to the last hand, one of those found and not the first."""
    some = []
    step = found[last]
    while step is not None:
        some.append(step)
        step = found[step[1]]
    return some[::-1]


def steps_to_least(book, deal, able, measures):
    """Steps that deal one work more, which these hands are able to do, and hand others on for it.

    The first step is that of the work itself, which has the next number and comes from a hand behind the last one.
    The last step goes to a hand whose measure is the least of all hands that such steps lead to.
    """
    nobody = book[0]
    found = reached(handing(book, deal) + [{hand: len(deal) for hand in able}], nobody)
    # Of several the one that was found first is told, which has the shortest way.
    last = min([hand for hand in found if hand != nobody], key=lambda hand: measures[hand])
    return way_to(found, last)
