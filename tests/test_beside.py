import unittest
from fractions import Fraction
from math import ceil, floor

from ablehands.beside import beside
from ablehands.blocks import blocks
from ablehands.may import may_have
from tests.helper import (
    BOOK, FULL, check_of_a_book, counted, drawn, evenest_ones, few_deals, in_a_moment, small_books,
)


class Beside(unittest.TestCase):

    def check(self, book):
        """What is told, against the loads in parts by the blocks; and these loads, greatest first."""
        rows = blocks(book, (1,) * len(book[1]))
        values = {hand: Fraction(*load) for some, load in rows for hand in some}
        told = [(floor(values[hand]), ceil(values[hand])) for hand in range(book[0])]
        self.assertEqual(repr(beside(book)), repr(told), book)
        return [Fraction(*load) for some, load in rows]

    def check_deals(self, book):
        loads = self.check(book)
        for deal in evenest_ones(book):
            many = counted(book, deal)
            self.assertEqual(max(many), ceil(loads[0]), (book, deal))
            self.assertEqual(min(many), floor(loads[-1]), (book, deal))
            for load, row in zip(many, beside(book)):
                self.assertIn(load, row, (book, deal))

    def test_every_small_book(self):
        for book in small_books(3, 3):
            self.check_deals(book)

    def test_books_with_few_deals(self):
        for book in few_deals(200, 91):
            self.check_deals(book)

    def test_greater_books(self):
        lengths = set()
        for chance, book in drawn(300, 92):
            self.check(book)
            for some, (low, high) in zip(may_have(book), beside(book)):
                self.assertIn(high - low, (0, 1))
                self.assertLessEqual(set(some), {low, high})
                lengths.add((len(some), high - low))
        self.assertTrue({(1, 0), (2, 1)} <= lengths)

    def test_written_ones(self):
        self.assertEqual(beside(BOOK), [(1, 1)] * 3)
        self.assertEqual(beside((2, ((0, 1),))), [(0, 1), (0, 1)])
        self.assertEqual(beside((3, ((0,), (0,), (0, 1), (1, 2)))), [(2, 2), (1, 1), (1, 1)])
        self.assertEqual(beside((3, ((0,), (0,), (1, 2)))), [(2, 2), (0, 1), (0, 1)])
        for hands in range(1, 7):
            self.assertEqual(beside((hands, ())), [(0, 0)] * hands)
            self.assertEqual(beside((hands, ((hands - 1,),) * 12)), [(0, 0)] * (hands - 1) + [(12, 12)])

    def test_twelve_works_for_six_hands(self):
        self.assertEqual(in_a_moment(beside, FULL), [(2, 2)] * 6)
        self.assertEqual(in_a_moment(beside, (5, (tuple(range(5)),) * 12)), [(2, 3)] * 5)

    def test_each_list_is_a_new_one(self):
        rows = beside(BOOK)
        rows[0] = None
        rows.clear()
        self.assertEqual(beside(BOOK), [(1, 1)] * 3)

    def test_names_and_refusals(self):
        self.assertEqual(beside(book=BOOK), [(1, 1)] * 3)
        check_of_a_book(beside)


if __name__ == "__main__":
    unittest.main()
