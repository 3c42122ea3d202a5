import random
import unittest

from ablehands.costs import are_prices, cheapest, cost_of
from ablehands.errors import NoBook, NoCosts, NoDeal
from ablehands.loads import waits
from tests.helper import (
    BOOK, FULL, HUGE, NO_COSTS, NO_DEALS, ODD, all_deals, counted, draw_deal, drawn, evenest_ones, few_deals,
    in_a_moment, no_books, other_numbers, refusal, small_books, spoiled,
)

COSTS = ((1, 5, 9), (2, 2, 2), (0, 7, 999))


def draw_costs(chance, book):
    """Costs from 0 to 999: any, small ones, alike ones, a hand that costs nothing, one that is dear."""
    several = ((0,), (999,), (0, 1), (1, 2, 3), (0, 999), range(20), range(1000), range(1000))
    some = chance.choice(several)
    rows = [sorted([chance.choice(some) for work in book[1]]) for hand in range(book[0])]
    if chance.random() < 0.3:
        rows[chance.randrange(book[0])] = sorted([chance.choice(chance.choice(several)) for work in book[1]])
    return tuple([tuple(row) for row in rows])


def counting(book):
    """Costs 1, 2, 3, .. for each hand."""
    return (tuple(range(1, len(book[1]) + 1)),) * book[0]


def spent(book, costs, deal):
    """What the deal costs, by paying for one work after the other."""
    many = [0] * book[0]
    paid = 0
    for hand in deal:
        paid += costs[hand][many[hand]]
        many[hand] += 1
    return paid


def hold(book, costs, deal, prices):
    """Whether they are prices, as the document says it."""
    if len(prices) != book[0]:
        return False
    many = counted(book, deal)
    for hand, price in enumerate(prices):
        paid, unpaid = costs[hand][:many[hand]], costs[hand][many[hand]:]
        if paid and price < paid[-1] or unpaid and price > unpaid[0]:
            return False
    return all(prices[hand] <= min(prices[other] for other in able) for hand, able in zip(deal, book[1]))


class Cheapest(unittest.TestCase):

    def check(self, book, costs):
        told = cheapest(book, costs)
        self.assertIsInstance(told, tuple)
        cost, deal, prices = told
        self.assertIsInstance(deal, tuple)
        self.assertEqual(len(deal), len(book[1]))
        for hand, able in zip(deal, book[1]):
            self.assertIn(repr(hand), [repr(one) for one in able])
        self.assertEqual(repr(cost), repr(spent(book, costs, deal)), (book, costs))
        self.assertEqual(repr(prices), repr(tuple([int(price) for price in prices])))
        self.assertTrue(hold(book, costs, deal, prices), (book, costs, told))
        self.assertIs(are_prices(book, costs, deal, prices), True)
        self.assertEqual(cost_of(book, costs, deal), cost)
        return cost

    def check_all(self, book, costs):
        least = min(spent(book, costs, deal) for deal in all_deals(book))
        self.assertEqual(self.check(book, costs), least, (book, costs))

    def test_every_small_book(self):
        chance = random.Random(2101)
        for book in small_books(3, 3):
            for count in range(3):
                self.check_all(book, draw_costs(chance, book))

    def test_books_with_few_deals(self):
        chance = random.Random(2102)
        for book in few_deals(200, 2103):
            self.check_all(book, draw_costs(chance, book))

    def test_greater_books(self):
        for chance, book in drawn(500, 2104):
            cost = self.check(book, draw_costs(chance, book))
            self.assertGreaterEqual(cost, 0)

    def test_costs_that_count(self):
        for book in list(small_books(3, 3)) + few_deals(150, 2105):
            cost, deal, prices = cheapest(book, counting(book))
            self.assertIn(deal, evenest_ones(book))
            self.assertEqual(cost, waits(book, deal))
        for chance, book in drawn(200, 2106):
            self.assertEqual(self.check(book, counting(book)), waits(book, cheapest(book, counting(book))[1]))

    def test_works_are_handed_on(self):
        # The last work leaves hand 0 to no other, so each of the others is handed on.
        book = (6, tuple([(hand, hand + 1) for hand in range(5)] + [(0,)]))
        costs = tuple([(hand, 999, 999, 999, 999, 999) for hand in range(6)])
        self.assertEqual(self.check(book, costs), 15)

    def test_one_hand_has_all_works(self):
        for book in ((2, ((0, 1),) * 4), (2, ((0,),) * 4), (1, ((0,),) * 4)):
            self.check_all(book, ((0, 0, 7, 999),) * book[0])
            self.check_all(book, ((0, 0, 0, 0), (5, 5, 5, 5))[:book[0]])
            self.check_all(book, ((5, 5, 5, 5), (5, 5, 5, 5))[:book[0]])

    def test_written_ones(self):
        self.assertEqual(cheapest(BOOK, COSTS)[0], 3)
        self.assertEqual(cheapest(BOOK, COSTS)[1], (1, 2, 0))
        self.assertEqual(cheapest((2, ()), ((), ()))[:2], (0, ()))
        self.assertEqual(cheapest((1, ((0,),) * 2), ((3, 4),))[:2], (7, (0, 0)))

    def test_twelve_works_for_six_hands(self):
        costs = tuple([tuple(range(hand, hand + 12)) for hand in range(6)])
        self.assertEqual(in_a_moment(cheapest, FULL, costs)[0], 1 * 0 + 2 * 1 + 3 * 2 + 4 * 3 + 2 * 4)

    def test_names(self):
        self.assertEqual(cheapest(costs=COSTS, book=BOOK), cheapest(BOOK, COSTS))


class CostOf(unittest.TestCase):

    def test_drawn_ones(self):
        for chance, book in drawn(300, 2107):
            costs = draw_costs(chance, book)
            deal = draw_deal(chance, book)
            self.assertEqual(repr(cost_of(book, costs, deal)), repr(spent(book, costs, deal)))

    def test_written_ones(self):
        self.assertEqual(cost_of(BOOK, COSTS, (0, 1, 0)), 1 + 5 + 2)
        self.assertEqual(cost_of(BOOK, COSTS, (1, 2, 0)), 1 + 2 + 0)
        self.assertEqual(cost_of((2, ()), ((), ()), ()), 0)
        self.assertEqual(cost_of(FULL, ((999,) * 12,) * 6, (5,) * 12), 11988)

    def test_names(self):
        self.assertEqual(cost_of(deal=(0, 1, 0), costs=COSTS, book=BOOK), 8)


class Prices(unittest.TestCase):

    def check(self, book, costs, deal, prices):
        answer = hold(book, costs, deal, prices)
        self.assertIs(are_prices(book, costs, deal, prices), answer, (book, costs, deal, prices))
        return answer

    def test_one_number_changed(self):
        answers = [0, 0]
        for chance, book in drawn(400, 2108):
            costs = draw_costs(chance, book)
            cost, deal, prices = cheapest(book, costs)
            for count in range(10):
                answers[self.check(book, costs, deal, other_numbers(chance, prices))] += 1
                near = tuple([price + chance.choice((-1, 0, 0, 0, 1)) for price in prices])
                answers[self.check(book, costs, deal, near)] += 1
        self.assertGreater(min(answers), 1000)

    def test_other_deals(self):
        answers = [0, 0]
        for book in few_deals(100, 2109, 60):
            chance = random.Random(len(book[1]))
            costs = draw_costs(chance, book)
            prices = cheapest(book, costs)[2]
            least = cheapest(book, costs)[0]
            for deal in all_deals(book):
                good = self.check(book, costs, deal, prices)
                # A deal with prices is a cheapest one.
                self.assertFalse(good and spent(book, costs, deal) > least)
                answers[good] += 1
        self.assertGreater(min(answers), 100)

    def test_edges(self):
        book = (2, ((0, 1), (0, 1)))
        costs = ((3, 5), (4, 9))
        for one in range(12):
            for other in range(12):
                self.check(book, costs, (0, 1), (one, other))
                self.check(book, costs, (0, 0), (one, other))
                self.check(book, costs, (1, 1), (one, other))
        # Of none the price may be any below the next one's cost, where it has all works any above the last one's.
        self.assertTrue(self.check((2, ((0,), (0,))), costs, (0, 0), (HUGE, -HUGE)))
        self.assertTrue(self.check((2, ((0,), (0,))), costs, (0, 0), (5, 4)))
        self.assertFalse(self.check((2, ((0,), (0,))), costs, (0, 0), (5, 5)))
        self.assertFalse(self.check((2, ((0,), (0,))), costs, (0, 0), (4, 4)))
        self.assertTrue(self.check((2, ()), ((), ()), (), (HUGE, -HUGE)))
        self.assertFalse(self.check((2, ()), ((), ()), (), (0,)))
        self.assertFalse(self.check((2, ()), ((), ()), (), ()))

    def test_other_things(self):
        prices = cheapest(BOOK, COSTS)[2]
        chance = random.Random(2110)
        for thing in ODD + [list(prices), prices + (0,), prices[:2], (True,) + prices[1:], prices[:2] + (None,)]:
            self.assertIs(are_prices(BOOK, COSTS, (1, 2, 0), thing), False, thing)
        for count in range(500):
            thing = spoiled(chance, prices)
            whole = isinstance(thing, tuple) and all(repr(price).lstrip("-").isdigit() for price in thing)
            good = whole and hold(BOOK, COSTS, (1, 2, 0), thing)
            self.assertIs(are_prices(BOOK, COSTS, (1, 2, 0), thing), good, thing)

    def test_names(self):
        cost, deal, prices = cheapest(BOOK, COSTS)
        self.assertIs(are_prices(prices=prices, deal=deal, costs=COSTS, book=BOOK), True)


class Refusals(unittest.TestCase):

    def check(self, book, costs, deal, error):
        self.assertIs(refusal(cost_of, book, costs, deal), error, (book, costs, deal))
        for prices in ((0, 0, 0), (), (1, 1, 1, 1)):
            self.assertIs(refusal(are_prices, book, costs, deal, prices), error, (book, costs, deal))

    def test_no_book_goes_ahead_of_all(self):
        for book in no_books():
            for costs in (COSTS, (), None, [1]):
                self.assertIs(refusal(cheapest, book, costs), NoBook, book)
                for deal in ((0, 1, 0), (), None):
                    self.check(book, costs, deal, NoBook)

    def test_then_no_deal(self):
        for deal in NO_DEALS:
            for costs in NO_COSTS + [COSTS]:
                self.check(BOOK, costs, deal, NoDeal)

    def test_then_no_costs(self):
        for costs in NO_COSTS + ODD:
            self.assertIs(refusal(cheapest, BOOK, costs), NoCosts, costs)
            self.check(BOOK, costs, (0, 1, 0), NoCosts)
        for costs in ((), ((),), ((), (), ()), ((), [])):
            self.assertIs(refusal(cheapest, (2, ()), costs), NoCosts, costs)

    def test_nothing_else(self):
        for costs in (COSTS, ((0, 0, 0),) * 3, ((999, 999, 999),) * 3, ((0, 0, 999), (5, 5, 6), (1, 2, 2))):
            self.assertIsNone(refusal(cheapest, BOOK, costs))
            self.check(BOOK, costs, (0, 1, 0), None)
        for cost in (-1, 1000, 1001, HUGE):
            for at in range(3):
                row = sorted([5, 5, cost])
                costs = COSTS[:at] + (tuple(row),) + COSTS[at + 1:]
                self.assertIs(refusal(cheapest, BOOK, costs), NoCosts, costs)


if __name__ == "__main__":
    unittest.main()
