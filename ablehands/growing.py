"""Which of the falling loads grows with one work more, and which falls with one work fewer."""

from ablehands.loads import loads
from ablehands.reaching import handing, reached
from ablehands.turning import evenest


def grows(book):
    """For each hand: how great the load is that grows by a work which that hand alone is able to do."""
    deal = evenest(book)[0]
    many = loads(book, deal)
    rows = handing(book, deal)
    # The hand's one more load is handed on to the least one that a way leads to.
    return tuple([min([many[other] for other in reached(rows, hand)]) for hand in range(book[0])])


def falls(book):
    """For each work: how great the load is that falls when the work goes."""
    deal = evenest(book)[0]
    many = loads(book, deal)
    rows = handing(book, deal)
    found = [reached(rows, hand) for hand in range(book[0])]
    # The gap at the work's hand is filled from the greatest load that leads there.
    tops = [max([load for load, leads in zip(many, found) if hand in leads]) for hand in range(book[0])]
    return tuple([tops[hand] for hand in deal])
