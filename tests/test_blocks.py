import random
import unittest
from fractions import Fraction

from ablehands.blocks import blocks, first_set
from ablehands.errors import NoBook, NoWeights
from tests.helper import (
    BOOK, FULL, NO_WEIGHTS, draw_weights, drawn, even_sums, in_a_moment, no_books, refusal, small_books, subsets,
)


def by_the_hand(book, weights, some):
    """The weights of the works able in the set alone, over its hands' number."""
    return Fraction(sum(weight for able, weight in zip(book[1], weights) if set(able) <= set(some)), len(some))


def draw_loads(chance, book, weights):
    """The loads of shares drawn by parting each work at some places."""
    many = [Fraction(0)] * book[0]
    for able, weight in zip(book[1], weights):
        rows = [chance.choice((0, 1, chance.randint(1, 9))) for hand in able]
        rows[chance.randrange(len(able))] += 1
        for hand, part in zip(able, rows):
            many[hand] += Fraction(weight * part, sum(rows))
    return many


class Blocks(unittest.TestCase):

    def check(self, book, weights):
        rows = blocks(book, weights)
        self.assertIsInstance(rows, list)
        for row in rows:
            self.check_row(row)
        values = [Fraction(*load) for some, load in rows]
        self.assertEqual(values, sorted(set(values))[::-1])
        self.assertEqual(sorted(hand for some, load in rows for hand in some), list(range(book[0])))
        self.assertEqual(sum(len(some) * Fraction(*load) for some, load in rows), sum(weights))
        self.check_sets(book, weights, rows, values)

    def check_row(self, row):
        self.assertIsInstance(row, tuple)
        some, load = row
        self.assertEqual(repr(some), repr(tuple(sorted(set(some)))))
        self.assertNotEqual(some, ())
        self.assertEqual(repr(load), repr(Fraction(*load).as_integer_ratio()))

    def check_sets(self, book, weights, rows, values):
        """The greatest over all sets; and for each block, over all sets with the blocks ahead of it in them."""
        ahead = ()
        for (some, load), value in zip(rows, values):
            base = by_the_hand(book, weights, ahead) * len(ahead) if ahead else 0
            best = {}
            for other in subsets(book[0]):
                more = set(other) - set(ahead)
                if set(ahead) <= set(other) and more:
                    worth = (by_the_hand(book, weights, other) * len(other) - base) / len(more)
                    best.setdefault(worth, []).append(more)
            self.assertEqual(max(best), value, (book, weights))
            self.assertEqual(set(some), set().union(*best[max(best)]), (book, weights))
            self.assertIn(set(some), best[max(best)])
            ahead += some
        self.assertEqual(repr(first_set(book, weights)), repr(rows[0][0]))

    def test_every_small_book(self):
        chance = random.Random(71)
        for book in small_books(3, 3):
            self.check(book, draw_weights(chance, book))

    def test_drawn_ones(self):
        many = set()
        for chance, book in drawn(200, 72):
            weights = draw_weights(chance, book)
            self.check(book, weights)
            many.add(len(blocks(book, weights)))
        self.assertTrue({1, 2, 3, 4} <= many)

    def test_no_shares_have_evener_loads(self):
        for chance, book in drawn(150, 73):
            weights = draw_weights(chance, book)
            sums = even_sums([Fraction(*load) for some, load in blocks(book, weights) for hand in some])
            for count in range(5):
                others = even_sums(draw_loads(chance, book, weights))
                self.assertTrue(all(mine <= yours for mine, yours in zip(sums, others)), (book, weights))

    def test_written_ones(self):
        self.assertEqual(blocks(BOOK, (1, 1, 1)), [((0, 1, 2), (1, 1))])
        self.assertEqual(blocks(BOOK, (0, 0, 5)), [((0,), (5, 1)), ((1, 2), (0, 1))])
        self.assertEqual(blocks(BOOK, (4, 0, 1)), [((0, 1), (5, 2)), ((2,), (0, 1))])
        self.assertEqual(first_set(BOOK, (4, 0, 1)), (0, 1))
        self.assertEqual(first_set(BOOK, (0, 0, 0)), (0, 1, 2))
        for hands in range(1, 7):
            self.assertEqual(blocks((hands, ()), ()), [(tuple(range(hands)), (0, 1))])
            self.assertEqual(first_set((hands, ()), ()), tuple(range(hands)))
        # Six hands, each with loads of its own.
        works = tuple((hand,) for hand in range(6))
        weights = (1, 4, 2, 0, 99, 3)
        rows = [((hand,), (weights[hand], 1)) for hand in (4, 1, 5, 2, 0, 3)]
        self.assertEqual(blocks((6, works), weights), rows)

    def test_the_greatest_of_several_sets(self):
        # Each of hands 1, 2 and 3 has the greatest load by itself.
        book = (4, ((1,), (2,), (3,), (0, 1)))
        self.assertEqual(first_set(book, (5, 5, 5, 2)), (1, 2, 3))
        self.assertEqual(first_set(book, (5, 5, 5, 5)), (0, 1, 2, 3))
        self.assertEqual(first_set(book, (5, 5, 4, 6)), (0, 1))

    def test_twelve_works_for_six_hands(self):
        weights = tuple(range(88, 100))
        self.assertEqual(in_a_moment(blocks, FULL, weights), [((0, 1, 2, 3, 4, 5), (187, 1))])
        self.assertEqual(in_a_moment(first_set, FULL, weights), (0, 1, 2, 3, 4, 5))
        self.assertEqual(blocks(FULL, (99,) * 11 + (98,)), [((0, 1, 2, 3, 4, 5), (1187, 6))])

    def test_each_list_is_a_new_one(self):
        rows = blocks(BOOK, (1, 1, 1))
        rows.append(None)
        rows[0] = ()
        self.assertEqual(blocks(BOOK, (1, 1, 1)), [((0, 1, 2), (1, 1))])

    def test_names(self):
        self.assertEqual(blocks(weights=(1, 1, 1), book=BOOK), [((0, 1, 2), (1, 1))])
        self.assertEqual(first_set(weights=(1, 1, 1), book=BOOK), (0, 1, 2))

    def test_refusals(self):
        for tell in (blocks, first_set):
            for book in no_books():
                for weights in ((), (1, 1, 1), None, [1], (-1,)):
                    self.assertIs(refusal(tell, book, weights), NoBook, (book, weights))
            for weights in NO_WEIGHTS:
                self.assertIs(refusal(tell, BOOK, weights), NoWeights, weights)
            for weights in ((0, 0, 0), (99, 99, 99), (0, 99, 1)):
                self.assertIsNone(refusal(tell, BOOK, weights))


if __name__ == "__main__":
    unittest.main()
