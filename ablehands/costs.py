"""The cheapest deals, where each hand's first work, its second and so on have their costs, and prices that show it."""

from ablehands.books import is_whole, need_book, need_deal
from ablehands.errors import NoCosts
from ablehands.loads import counted
from ablehands.reaching import handing, reached, steps_to_least

MOST_COST = 999


def is_cost_row(many, thing):
    """Whether the thing holds what a hand's first works cost, so many of them."""
    if not isinstance(thing, tuple) or len(thing) != many:
        return False
    if not all([is_whole(cost) and 0 <= cost <= MOST_COST for cost in thing]):
        return False
    return all([cost <= behind for cost, behind in zip(thing, thing[1:])])


def are_costs(book, thing):
    """Whether the thing, which may be anything, holds costs for the hands of the book."""
    need_book(book)
    if not isinstance(thing, tuple) or len(thing) != book[0]:
        return False
    return all([is_cost_row(len(book[1]), row) for row in thing])


def need_costs(book, costs):
    """Refuse what is no book, then what are no costs of its hands."""
    if not are_costs(book, costs):
        raise NoCosts("these are no costs of the book's hands")


def cost_of(book, costs, deal):
    """What the deal costs."""
    need_deal(book, deal)
    need_costs(book, costs)
    return sum([sum(row[:load]) for row, load in zip(costs, counted(book[0], deal))])


def next_costs(costs, many):
    """For each hand what its next work costs; where it has all works, what its last one costs, of no works 0."""
    return [(row + row[-1:] + (0,))[load] for row, load in zip(costs, many)]


def cheapest_deal(book, costs):
    """A deal than which none is cheaper."""
    hands, works = book
    deal = []
    for work, able in enumerate(works):
        # Behind each work the deal of those so far is a cheapest one, as the steps lead to the cheapest next work.
        nexts = next_costs(costs, counted(hands, deal))
        steps = steps_to_least((hands, works[:work]), deal, able, nexts)
        deal.append(None)
        for moved, giver, taker in steps:
            deal[moved] = taker
    return tuple(deal)


def cheapest(book, costs):
    """(cost, deal, prices): a deal than which none is cheaper, what it costs, and prices that show it."""
    need_costs(book, costs)
    deal = cheapest_deal(book, costs)
    nexts = next_costs(costs, counted(book[0], deal))
    rows = handing(book, deal)
    # Whatever the taker of a work leads to its giver leads to as well, so this price never falls on a way.
    prices = tuple([min([nexts[other] for other in reached(rows, hand)]) for hand in range(book[0])])
    return (cost_of(book, costs, deal), deal, prices)


def is_price(row, load, price):
    """Whether the price is no less than the cost of a hand's last work and no more than that of its next one."""
    if load > 0 and price < row[load - 1]:
        return False
    return load == len(row) or price <= row[load]


def are_prices(book, costs, deal, prices):
    """Whether the tuple, of any whole numbers, holds prices of the deal."""
    need_deal(book, deal)
    need_costs(book, costs)
    if not isinstance(prices, tuple) or len(prices) != book[0]:
        return False
    if not all([is_whole(price) for price in prices]):
        return False
    many = counted(book[0], deal)
    if not all([is_price(row, load, price) for row, load, price in zip(costs, many, prices)]):
        return False
    return all([prices[hand] <= prices[other] for hand, able in zip(deal, book[1]) for other in able])
