import random
import unittest

from ablehands.growing import falls, grows
from ablehands.loads import falling
from ablehands.turning import evenest
from tests.helper import (
    BOOK, FULL, check_of_a_book, counted, drawn, evenest_ones, few_deals, in_a_moment, shorter, small_books,
)


def searched(book):
    """The falling loads of the evenest deals, by a search over all deals; the book may have a work too many."""
    return sorted(counted(book, evenest_ones(book)[0]))[::-1]


def turned(book):
    return falling(book, evenest(book)[0])


def without(book, work):
    return (book[0], book[1][:work] + book[1][work + 1:])


def grown(least, greatest):
    """How great the one load was that is greater by 1 in the other row; the rows must differ by it alone."""
    places = [at for at in range(len(least)) if least[at] != greatest[at]]
    assert len(places) == 1 and greatest[places[0]] == least[places[0]] + 1, (least, greatest)
    return least[places[0]]


class Growing(unittest.TestCase):

    def check(self, book, tell):
        ahead = tell(book)
        more = [tell((book[0], book[1] + ((hand,),))) for hand in range(book[0])] if len(book[1]) < 12 else []
        fewer = [tell(without(book, work)) for work in range(len(book[1]))]
        self.check_rows(book, ahead, more, fewer)

    def check_rows(self, book, ahead, more, fewer):
        if more:
            self.assertEqual(repr(grows(book)), repr(tuple(grown(ahead, row) for row in more)), book)
        self.assertEqual(repr(falls(book)), repr(tuple(grown(row, ahead) + 1 for row in fewer)), book)

    def test_every_small_book(self):
        for book in small_books(3, 3):
            self.check(book, searched)

    def test_books_with_few_deals(self):
        for book in few_deals(120, 41, 200):
            self.check(book, searched)

    def test_greater_books(self):
        for chance, book in drawn(120, 42):
            self.check(book, turned)

    def test_a_work_more_than_twelve(self):
        chance = random.Random(43)
        for count in range(60):
            hands = chance.randint(1, 6)
            works = [shorter(chance, tuple(range(hands))) for at in range(5)]
            works = tuple([(chance.randrange(hands),) for at in range(7)] + works)
            ahead = searched((hands, works))
            more = [searched((hands, works + ((hand,),))) for hand in range(hands)]
            fewer = [searched(without((hands, works), work)) for work in range(12)]
            self.check_rows((hands, works), ahead, more, fewer)

    def test_written_ones(self):
        self.assertEqual(grows(BOOK), (1, 1, 1))
        self.assertEqual(falls(BOOK), (1, 1, 1))
        # One hand has a work more than it must: what comes to it goes on to the other, what goes there is filled.
        book = (2, ((0, 1), (0, 1), (0, 1)))
        self.assertEqual(grows(book), (1, 1))
        self.assertEqual(falls(book), (2, 2, 2))
        # A gap at hand 1 isn't filled by hand 0, whose works it can't do.
        book = (2, ((0,), (0,), (0,), (0, 1)))
        self.assertEqual(grows(book), (3, 1))
        self.assertEqual(falls(book), (3, 3, 3, 1))
        for hands in range(1, 7):
            self.assertEqual(grows((hands, ())), (0,) * hands)
            self.assertEqual(falls((hands, ())), ())
            self.assertEqual(grows((hands, ((0,),) * 12)), (12,) + (0,) * (hands - 1))
            self.assertEqual(falls((hands, ((0,),) * 12)), (12,) * 12)

    def test_twelve_works_for_six_hands(self):
        self.assertEqual(in_a_moment(grows, FULL), (2,) * 6)
        self.assertEqual(in_a_moment(falls, FULL), (2,) * 12)
        book = (6, FULL[1][:10])
        self.assertEqual(in_a_moment(grows, book), (1,) * 6)
        self.assertEqual(in_a_moment(falls, book), (2,) * 10)

    def test_names(self):
        self.assertEqual(grows(book=BOOK), (1, 1, 1))
        self.assertEqual(falls(book=BOOK), (1, 1, 1))

    def test_refusals(self):
        for tell in (grows, falls):
            check_of_a_book(tell)


if __name__ == "__main__":
    unittest.main()
