import copy
import random
import unittest

from ablehands.errors import NoBook, NoDeal
from ablehands.loads import falling, loads, no_less_even, waits
from tests.helper import (
    BOOK, HUGE, NO_DEALS, all_deals, counted, draw_book, draw_deal, drawn, even_sums, no_books,
)

DEAL = (0, 1, 0)
OF_ONE_DEAL = (loads, falling, waits)


class Loads(unittest.TestCase):

    def test_written_ones(self):
        self.assertEqual(loads(BOOK, DEAL), (2, 1, 0))
        self.assertEqual(loads(BOOK, (1, 2, 0)), (1, 1, 1))
        self.assertEqual(falling(BOOK, (1, 1, 0)), [2, 1, 0])
        self.assertEqual(waits(BOOK, DEAL), 4)
        self.assertEqual(waits(BOOK, (1, 2, 0)), 3)
        self.assertEqual(waits((1, ((0,),) * 12), (0,) * 12), 78)

    def test_without_works(self):
        for hands in range(1, 7):
            self.assertEqual(loads((hands, ()), ()), (0,) * hands)
            self.assertEqual(falling((hands, ()), ()), [0] * hands)
            self.assertEqual(waits((hands, ()), ()), 0)
            self.assertIs(no_less_even((hands, ()), (), ()), True)

    def test_against_sums_counted_here(self):
        for chance, book in drawn(400, 5):
            deal = draw_deal(chance, book)
            many = counted(book, deal)
            self.assertEqual(repr(loads(book, deal)), repr(many))
            self.assertEqual(repr(falling(book, deal)), repr(sorted(many)[::-1]))
            self.assertEqual(repr(waits(book, deal)), repr(sum(sum(range(load + 1)) for load in many)))

    def test_each_list_and_tuple_is_a_new_one(self):
        first = falling(BOOK, DEAL)
        first.append(HUGE)
        first[0] = None
        second = falling(BOOK, DEAL)
        self.assertEqual(second, [2, 1, 0])
        self.assertIsNot(second, falling(BOOK, DEAL))
        self.assertIsNot(loads(BOOK, DEAL), loads(BOOK, DEAL))

    def test_names(self):
        self.assertEqual(loads(deal=DEAL, book=BOOK), (2, 1, 0))
        self.assertEqual(falling(deal=DEAL, book=BOOK), [2, 1, 0])
        self.assertEqual(waits(deal=DEAL, book=BOOK), 4)
        self.assertIs(no_less_even(other=DEAL, one=(1, 2, 0), book=BOOK), True)
        self.assertIs(no_less_even(other=(1, 2, 0), one=DEAL, book=BOOK), False)


class Even(unittest.TestCase):

    def test_against_sums_counted_here(self):
        answers = [0, 0]
        for chance, book in drawn(600, 6):
            one, other = draw_deal(chance, book), draw_deal(chance, book)
            pairs = zip(even_sums(counted(book, one)), even_sums(counted(book, other)))
            answer = all(mine <= yours for mine, yours in pairs)
            answers[answer] += 1
            self.assertIs(no_less_even(book, one, other), answer, (book, one, other))
            self.assertIs(no_less_even(book, one, one), True)
        self.assertGreater(min(answers), 50)

    def test_neither_of_two(self):
        book = (3, ((0, 1, 2),) * 6)
        one, other = (0, 0, 0, 1, 1, 1), (2, 2, 2, 2, 0, 1)
        self.assertIs(no_less_even(book, one, other), False)
        self.assertIs(no_less_even(book, other, one), False)

    def test_later_sums_count(self):
        book = (3, ((0, 1, 2),) * 6)
        one, other = (0, 0, 0, 1, 1, 2), (1, 1, 1, 2, 2, 2)
        self.assertIs(no_less_even(book, one, other), True)
        self.assertIs(no_less_even(book, other, one), False)

    def test_which_hand_has_which_load_is_all_one(self):
        book = (3, ((0, 1, 2),) * 3)
        self.assertIs(no_less_even(book, (0, 0, 1), (2, 1, 2)), True)
        self.assertIs(no_less_even(book, (2, 1, 2), (0, 0, 1)), True)

    def test_there_is_an_evenest_deal_and_all_have_the_same_falling_loads(self):
        chance = random.Random(7)
        for count in range(100):
            book = draw_book(chance, 4, 4)
            self.check_evenest(book, all_deals(book))

    def check_evenest(self, book, deals):
        rows = {tuple(falling(book, deal)): deal for deal in deals}
        best = [row for row in rows if all(no_less_even(book, rows[row], deal) for deal in rows.values())]
        self.assertEqual(len(best), 1, book)
        self.assertEqual(waits(book, rows[best[0]]), min(waits(book, deal) for deal in deals))


class Refusals(unittest.TestCase):

    def test_no_book_goes_ahead_whatever_the_deal_is(self):
        for book in no_books():
            for deal in NO_DEALS + [DEAL]:
                for tell in OF_ONE_DEAL:
                    with self.assertRaises(NoBook, msg=(tell, book, deal)):
                        tell(book, deal)
                for one, other in ((deal, DEAL), (DEAL, deal), (deal, deal)):
                    with self.assertRaises(NoBook, msg=(book, one, other)):
                        no_less_even(book, one, other)

    def test_no_deal(self):
        for deal in NO_DEALS:
            for tell in OF_ONE_DEAL:
                with self.assertRaises(NoDeal, msg=(tell, deal)):
                    tell(BOOK, deal)
            for one, other in ((deal, DEAL), (DEAL, deal), (deal, deal), (deal, (1, 2, 0)), ((1, 2, 0), deal)):
                with self.assertRaises(NoDeal, msg=(one, other)):
                    no_less_even(BOOK, one, other)

    def test_no_deal_of_one_hand_or_without_works(self):
        for book, deal in (((1, ()), (0,)), ((1, ((0,),)), (1,)), ((1, ((0,),)), ()), ((6, ()), None)):
            for tell in OF_ONE_DEAL:
                with self.assertRaises(NoDeal):
                    tell(book, deal)

    def test_nothing_is_changed(self):
        for deal in NO_DEALS + [DEAL]:
            for book in no_books() + [BOOK]:
                handed = copy.deepcopy((book, deal))
                for tell in OF_ONE_DEAL:
                    self.call(tell, *handed)
                self.call(no_less_even, *handed, DEAL)
                self.call(no_less_even, handed[0], DEAL, handed[1])
                self.assertEqual(repr(handed), repr((book, deal)))

    def call(self, tell, *handed):
        try:
            tell(*handed)
        except (NoBook, NoDeal):
            pass


if __name__ == "__main__":
    unittest.main()
