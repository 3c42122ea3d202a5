import copy
import random
import unittest

from ablehands.books import is_book, is_deal
from ablehands.errors import NoBook
from tests.helper import BOOK, NO_DEALS, ODD, all_deals, draw_deal, drawn, no_books, small_books, spoiled, subsets

# More figures than Python writes as a text.
ENDLESS = 10 ** 5000


class Books(unittest.TestCase):

    def check(self, thing, answer):
        self.assertIs(is_book(thing), answer, thing)

    def test_drawn_books(self):
        for chance, book in drawn(300, 1):
            self.check(book, True)

    def test_hands(self):
        for hands in range(-3, 12):
            self.check((hands, ()), 1 <= hands <= 6)
            self.check((hands, ((0,),)), 1 <= hands <= 6)

    def test_number_of_works(self):
        for many in range(20):
            self.check((3, ((0, 2),) * many), many <= 12)
            self.check((6, (tuple(range(6)),) * many), many <= 12)

    def test_every_work(self):
        for hands in range(1, 7):
            for work in subsets(hands):
                self.check((hands, (work,)), True)
            self.check((hands, ((),)), False)
            self.check((hands, (tuple(range(hands + 1)),)), False)
            self.check((hands, ((hands,),)), False)
            self.check((hands, ((-1,),)), False)

    def test_a_fault_at_any_place(self):
        for at in range(12):
            for bad in ((), (1, 0), (2, 2), (6,), (-1, 0), (0, True), [0], None):
                works = [(0, 1, 5)] * 12
                works[at] = bad
                self.check((6, tuple(works)), False)

    def test_faults(self):
        for thing in no_books() + ODD:
            self.check(thing, thing in ((2, ()), (2, ((0,), (0, 1)))))

    def test_truths_are_no_numbers(self):
        self.check((1, ((0,),)), True)
        self.check((True, ((0,),)), False)
        self.check((2, ((0, 1),)), True)
        self.check((2, ((False, 1),)), False)
        self.check((2, ((0, True),)), False)

    def test_lists_are_no_tuples(self):
        self.check([2, ((0,),)], False)
        self.check((2, [(0,)]), False)
        self.check((2, ([0],)), False)

    def test_numbers_of_many_figures(self):
        for number in (ENDLESS, -ENDLESS):
            self.assertIs(is_book(number), False)
            self.assertIs(is_book((number, ())), False)
            self.assertIs(is_book((2, number)), False)
            self.assertIs(is_book((2, (number,))), False)
            self.assertIs(is_book((2, ((0, number),))), False)

    def test_spoiled_ones_against_all_small_books(self):
        # The texts of two things are alike only where kinds are, too.
        books = list(small_books(3, 2))
        texts = {repr(book) for book in books}
        chance = random.Random(2)
        answers = [0, 0]
        for count in range(6000):
            thing = spoiled(chance, chance.choice(books))
            # Past two works the small world doesn't tell what is a book.
            if isinstance(thing, tuple) and len(thing) == 2 and isinstance(thing[1], tuple) and len(thing[1]) > 2:
                continue
            answer = repr(thing) in texts
            answers[answer] += 1
            self.check(thing, answer)
        self.assertGreater(min(answers), 300)

    def test_nothing_is_changed_and_names(self):
        for thing in no_books() + [BOOK]:
            kept = copy.deepcopy(thing)
            self.assertIs(is_book(thing=thing), thing == BOOK)
            self.assertEqual(repr(thing), repr(kept))


class Deals(unittest.TestCase):

    def check(self, book, thing, answer):
        self.assertIs(is_deal(book, thing), answer, (book, thing))

    def test_drawn_deals(self):
        for chance, book in drawn(300, 3):
            self.check(book, draw_deal(chance, book), True)

    def test_every_row_of_hands(self):
        for deal in all_deals((5, ((0, 1, 2, 3, 4),) * 3)):
            self.check(BOOK, deal, deal in all_deals(BOOK))

    def test_without_works(self):
        for hands in range(1, 7):
            self.check((hands, ()), (), True)
            for thing in ([], {}, "", None, 0, False, (0,), ((),), (None,)):
                self.check((hands, ()), thing, False)

    def test_faults(self):
        for thing in NO_DEALS:
            self.check(BOOK, thing, False)
        self.check(BOOK, (0, 1, 0), True)

    def test_an_unable_hand_at_any_place(self):
        for at in range(12):
            deal = [1] * 12
            book = (4, ((1, 3),) * 12)
            self.check(book, tuple(deal), True)
            for bad in (0, 2, 4, -1, True, None, "1", (1,), [1]):
                deal[at] = bad
                self.check(book, tuple(deal), False)

    def test_numbers_of_many_figures(self):
        for number in (ENDLESS, -ENDLESS):
            self.assertIs(is_deal(BOOK, number), False)
            self.assertIs(is_deal(BOOK, (0, number, 0)), False)

    def test_spoiled_ones_against_all_deals(self):
        chance = random.Random(4)
        books = list(small_books(3, 3))
        answers = [0, 0]
        for count in range(6000):
            book = chance.choice(books)
            texts = {repr(deal) for deal in all_deals(book)}
            thing = spoiled(chance, draw_deal(chance, book))
            answer = repr(thing) in texts
            answers[answer] += 1
            self.check(book, thing, answer)
        self.assertGreater(min(answers), 300)

    def test_no_book_is_refused_whatever_the_deal_is(self):
        for book in no_books():
            for thing in ODD:
                with self.assertRaises(NoBook, msg=(book, thing)):
                    is_deal(book, thing)

    def test_nothing_is_changed_and_names(self):
        for thing in NO_DEALS + [(0, 1, 0)]:
            book, kept = copy.deepcopy(BOOK), copy.deepcopy(thing)
            self.assertIs(is_deal(thing=thing, book=book), repr(thing) == "(0, 1, 0)")
            self.assertEqual(repr((book, thing)), repr((BOOK, kept)))


if __name__ == "__main__":
    unittest.main()
