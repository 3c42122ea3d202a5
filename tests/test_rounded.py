import random
import unittest
from fractions import Fraction

from ablehands.blocks import blocks
from ablehands.books import is_deal
from ablehands.errors import NoBook, NoWeights
from ablehands.rounded import rounded
from ablehands.weighed import least_most
from tests.helper import (
    BOOK, FULL, NO_WEIGHTS, draw_book, draw_weights, drawn, in_a_moment, no_books, refusal, small_books,
)


def heavy(chance, book):
    """Great weights near one another, which leave little room below the bound."""
    return tuple([chance.choice((99, 98, 97, 90, 60, 50)) for work in book[1]])


class Rounded(unittest.TestCase):

    def check(self, book, weights):
        deal = rounded(book, weights)
        self.assertIs(is_deal(book, deal), True, (book, weights))
        parts = {hand: Fraction(*load) for some, load in blocks(book, weights) for hand in some}
        for hand, able, weight in zip(deal, book[1], weights):
            if weight > 0:
                self.assertEqual(parts[hand], min(parts[other] for other in able), (book, weights, deal))
        for hand in range(book[0]):
            load = sum(weight for weight, owner in zip(weights, deal) if owner == hand)
            if max(weights, default=0) > 0:
                self.assertLess(load, parts[hand] + max(weights), (book, weights, deal))
            else:
                self.assertEqual(load, 0)

    def test_every_small_book(self):
        chance = random.Random(111)
        for book in small_books(3, 3):
            self.check(book, draw_weights(chance, book))
            self.check(book, heavy(chance, book))

    def test_drawn_ones(self):
        for chance, book in drawn(600, 112):
            self.check(book, draw_weights(chance, book))
            self.check(book, heavy(chance, book))
            self.check(book, (chance.randint(1, 99),) * len(book[1]))

    def test_light_and_heavy_ones(self):
        # Were the works not taken by their weights, light ones ahead would leave more places to heavy ones.
        for chance, book in drawn(600, 115):
            weights = [chance.choice((1, 5, 20, 95, 99)) for work in book[1]]
            self.check(book, tuple(sorted(weights)))
            self.check(book, tuple(sorted(weights)[::-1]))

    def test_some_nought_and_all_nought(self):
        for chance, book in drawn(100, 113):
            self.check(book, (0,) * len(book[1]))
            self.check(book, tuple([chance.choice((0, 0, 99)) for work in book[1]]))

    def test_few_works_alike(self):
        # Where several hands are level a work rounded to the same hand each time would be too much.
        for hands in range(1, 7):
            for many in range(13):
                for weight in (1, 7, 99):
                    self.check((hands, (tuple(range(hands)),) * many), (weight,) * many)
                self.check((hands, (tuple(range(hands)),) * many), tuple(range(99, 99 - many, -1)))

    def test_a_chain(self):
        works = tuple([(hand, hand + 1) for hand in range(5)] + [(0,), (5,)])
        for first in (0, 1, 50, 99):
            for last in (0, 1, 50, 99):
                self.check((6, works), (99, 98, 97, 96, 95, first, last))

    def test_most_is_below_the_first_block_and_the_greatest_weight(self):
        chance = random.Random(114)
        for count in range(60):
            book = draw_book(chance, 4, 7)
            weights = draw_weights(chance, book)
            if any(weights):
                load = Fraction(*blocks(book, weights)[0][1])
                self.assertLess(least_most(book, weights)[0], load + max(weights))

    def test_twelve_works_for_six_hands(self):
        for weights in ((99,) * 12, tuple(range(88, 100)), (0,) * 11 + (1,)):
            in_a_moment(rounded, FULL, weights)

    def test_names(self):
        self.assertEqual(rounded(weights=(1, 1, 1), book=BOOK), (1, 2, 0))

    def test_refusals(self):
        for book in no_books():
            for weights in ((), (1, 1, 1), None, [1], (-1,)):
                self.assertIs(refusal(rounded, book, weights), NoBook)
        for weights in NO_WEIGHTS:
            self.assertIs(refusal(rounded, BOOK, weights), NoWeights)
        for weights in ((0, 0, 0), (99, 99, 99), (0, 99, 1)):
            self.assertIsNone(refusal(rounded, BOOK, weights))
        self.assertIsNone(refusal(rounded, FULL, (99,) * 12))


if __name__ == "__main__":
    unittest.main()
