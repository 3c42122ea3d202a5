import unittest

from ablehands.coming import as_they_come
from ablehands.turning import evenest
from tests.helper import BOOK, FULL, check_of_a_book, counted, drawn, in_a_moment, small_books


class Coming(unittest.TestCase):

    def check(self, book):
        """The deal, work by work as the document says it; and its bound."""
        many = [0] * book[0]
        told = []
        for able in book[1]:
            load, hand = min([(many[one], one) for one in able])
            many[hand] += 1
            told.append(hand)
        deal = as_they_come(book)
        self.assertEqual(repr(deal), repr(tuple(told)), book)
        # The least whole number with 2 ** k no less than the hands.
        k = (0, 1, 2, 2, 3, 3)[book[0] - 1]
        most = max(counted(book, deal))
        best = max(counted(book, evenest(book)[0]))
        self.assertLessEqual(most, (k + 1) * best, book)
        return most - best

    def test_every_small_book(self):
        for book in small_books(3, 3):
            self.check(book)

    def test_drawn_ones(self):
        above = [self.check(book) for chance, book in drawn(600, 2001)]
        self.assertGreater(max(above), 0)

    def test_halves(self):
        # Each round leaves half of the hands to the next one, so that one hand has a work of each round.
        book = (4, ((0, 1), (2, 3), (0, 2), (0,)))
        self.assertEqual(as_they_come(book), (0, 2, 0, 0))
        self.assertEqual(self.check(book), 2)
        book = (6, ((0, 3), (1, 4), (2, 5), (0, 1), (0, 2), (0,)))
        self.check(book)

    def test_written_ones(self):
        self.assertEqual(as_they_come(BOOK), (0, 1, 0))
        self.assertEqual(as_they_come((3, ((0, 1, 2),) * 5)), (0, 1, 2, 0, 1))
        self.assertEqual(as_they_come((3, ((2,), (1, 2), (1, 2), (0, 1)))), (2, 1, 1, 0))
        for hands in range(1, 7):
            self.assertEqual(as_they_come((hands, ())), ())

    def test_twelve_works_for_six_hands(self):
        self.assertEqual(in_a_moment(as_they_come, FULL), (0, 1, 2, 3, 4, 5) * 2)

    def test_names_and_refusals(self):
        self.assertEqual(as_they_come(book=BOOK), (0, 1, 0))
        check_of_a_book(as_they_come)


if __name__ == "__main__":
    unittest.main()
