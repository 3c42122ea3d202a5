import random
import unittest

from ablehands.may import how_many, may_go, may_have
from ablehands.turning import evenest
from tests.helper import (
    BOOK, FULL, check_of_a_book, counted, drawn, even_sums, evenest_ones, few_deals, in_a_moment, small_books,
)


def counted_all(book):
    """How many evenest deals there are, by counting the deals of each row of loads."""
    rows = {(0,) * book[0]: 1}
    for able in book[1]:
        grown = {}
        for many, count in rows.items():
            for hand in able:
                key = many[:hand] + (many[hand] + 1,) + many[hand + 1:]
                grown[key] = grown.get(key, 0) + count
        rows = grown
    least = min(even_sums(many) for many in rows)
    best = [many for many in rows if even_sums(many) == least]
    return sum(rows[many] for many in best), best


class May(unittest.TestCase):

    def check(self, book):
        best = evenest_ones(book)
        goes = [tuple(sorted({deal[work] for deal in best})) for work in range(len(book[1]))]
        rows = [counted(book, deal) for deal in best]
        has = [tuple(sorted({many[hand] for many in rows})) for hand in range(book[0])]
        self.assertEqual(repr(may_go(book)), repr(goes), book)
        self.assertEqual(repr(may_have(book)), repr(has), book)
        self.assertEqual(repr(how_many(book)), repr(len(best)), book)

    def test_every_small_book(self):
        for book in small_books(3, 3):
            self.check(book)

    def test_books_with_few_deals(self):
        for book in few_deals(250, 31):
            self.check(book)

    def test_greater_books(self):
        for chance, book in drawn(40, 32):
            count, best = counted_all(book)
            self.assertEqual(how_many(book), count, book)
            has = [tuple(sorted({many[hand] for many in best})) for hand in range(book[0])]
            self.assertEqual(may_have(book), has, book)

    def test_greater_books_work_by_work(self):
        # The hand has the work in some evenest deal where the book narrowed to it counts some with the same loads.
        chance = random.Random(33)
        for count in range(20):
            works = tuple(tuple(sorted(chance.sample(range(5), chance.randint(1, 3)))) for at in range(9))
            best = set(counted_all((5, works))[1])
            goes = []
            for work, able in enumerate(works):
                narrow = [(hand, works[:work] + ((hand,),) + works[work + 1:]) for hand in able]
                goes.append(tuple(hand for hand, some in narrow if best & set(counted_all((5, some))[1])))
            self.assertEqual(may_go((5, works)), goes, works)

    def test_one_number_or_two_that_follow(self):
        lengths = set()
        for chance, book in drawn(200, 34):
            deal = evenest(book)[0]
            many = counted(book, deal)
            for hand, some in enumerate(may_have(book)):
                lengths.add(len(some))
                self.assertIn(many[hand], some)
                self.assertIn(some, ((some[0],), (some[0], some[0] + 1)))
            for hand, some, able in zip(deal, may_go(book), book[1]):
                self.assertIn(hand, some)
                self.assertEqual([other for other in able if other in some], list(some))
        self.assertEqual(lengths, {1, 2})

    def test_written_ones(self):
        self.assertEqual(may_go(BOOK), [(1,), (2,), (0,)])
        self.assertEqual(may_have(BOOK), [(1,), (1,), (1,)])
        self.assertEqual(how_many(BOOK), 1)
        book = (2, ((0, 1),))
        self.assertEqual(may_go(book), [(0, 1)])
        self.assertEqual(may_have(book), [(0, 1), (0, 1)])
        self.assertEqual(how_many(book), 2)
        for hands in range(1, 7):
            self.assertEqual(may_go((hands, ())), [])
            self.assertEqual(may_have((hands, ())), [(0,)] * hands)
            self.assertEqual(how_many((hands, ())), 1)
            self.assertEqual(may_have((hands, ((0,),) * 12)), [(12,)] + [(0,)] * (hands - 1))

    def test_a_round(self):
        # Each of three works may go to either of two hands, though no hand has another load.
        book = (3, ((0, 1), (1, 2), (0, 2)))
        self.assertEqual(may_go(book), [(0, 1), (1, 2), (0, 2)])
        self.assertEqual(may_have(book), [(1,)] * 3)
        self.assertEqual(how_many(book), 2)

    def test_twelve_works_for_six_hands(self):
        self.assertEqual(in_a_moment(may_go, FULL), [(0, 1, 2, 3, 4, 5)] * 12)
        self.assertEqual(in_a_moment(may_have, FULL), [(2,)] * 6)
        self.assertEqual(in_a_moment(how_many, FULL), 7484400)
        book = (6, FULL[1][:9])
        self.assertEqual(in_a_moment(may_have, book), [(1, 2)] * 6)
        # Three of six hands have two works each: 20 choices, each with 9! // 2 ** 3 deals.
        self.assertEqual(in_a_moment(how_many, book), 20 * 362880 // 8)

    def test_each_list_is_a_new_one(self):
        for tell in (may_go, may_have):
            first = tell(BOOK)
            first.append(None)
            first[0] = ()
            self.assertEqual(tell(BOOK), [(1,), (2,), (0,)] if tell is may_go else [(1,)] * 3)

    def test_names(self):
        self.assertEqual(may_go(book=(2, ((0, 1),))), [(0, 1)])
        self.assertEqual(may_have(book=(2, ((0, 1),))), [(0, 1), (0, 1)])
        self.assertEqual(how_many(book=(2, ((0, 1),))), 2)

    def test_refusals(self):
        for tell in (may_go, may_have, how_many):
            check_of_a_book(tell)


if __name__ == "__main__":
    unittest.main()
