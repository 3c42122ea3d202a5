import itertools
import random
import unittest

from ablehands.errors import NoBook, NoRooms
from ablehands.rooms import do_bar, in_rooms, is_in_rooms
from tests.helper import (
    BOOK, FULL, HUGE, NO_ROOMS, ODD, draw_book, drawn, few_deals, in_a_moment, no_books, other_numbers, refusal,
    small_books, spoiled, subsets,
)


def draw_rooms(chance, book):
    """Rooms from 0 to 12: any, none, wide or narrow ones."""
    some = chance.choice(((0,), (12,), (0, 1), (1,), (0, 1, 2), (1, 2, 3), (0, 12), range(13)))
    return tuple([chance.choice(some) for hand in range(book[0])])


def all_in_rooms(book, rooms):
    """All deals with rooms."""
    rows = itertools.product(*[able + (None,) for able in book[1]])
    return [row for row in rows if all(row.count(hand) <= room for hand, room in enumerate(rooms))]


def more_works(book, rooms, some):
    """By how many the works able in these hands alone are more than their rooms together."""
    return sum(set(able) <= set(some) for able in book[1]) - sum(rooms[hand] for hand in some)


def is_bar(book, rooms, some, number):
    """Whether the tuple, of whole numbers, bars so many, as the document says it."""
    return some in [()] + subsets(book[0]) and more_works(book, rooms, some) >= number


class InRooms(unittest.TestCase):

    def check(self, book, rooms):
        """What is told, by the document's words; how many works are left out."""
        told = in_rooms(book, rooms)
        self.assertIsInstance(told, tuple)
        deal, some = told
        self.assertIsInstance(deal, tuple)
        self.assertEqual(len(deal), len(book[1]))
        for hand, able in zip(deal, book[1]):
            self.assertIn(repr(hand), [repr(one) for one in able + (None,)])
        for hand, room in enumerate(rooms):
            self.assertLessEqual(deal.count(hand), room)
        self.assertIn(repr(some), [repr(one) for one in [()] + subsets(book[0])])
        left = deal.count(None)
        self.assertEqual(more_works(book, rooms, some), left, (book, rooms, told))
        self.assertIs(is_in_rooms(book, rooms, deal), True)
        self.assertIs(do_bar(book, rooms, some, left), True)
        self.assertIs(do_bar(book, rooms, some, left + 1), False)
        return left

    def test_every_small_book(self):
        chance = random.Random(1901)
        for book in small_books(3, 3):
            for count in range(3):
                rooms = draw_rooms(chance, book)
                left = min(row.count(None) for row in all_in_rooms(book, rooms))
                self.assertEqual(self.check(book, rooms), left, (book, rooms))

    def test_books_with_few_deals(self):
        chance = random.Random(1902)
        for book in few_deals(150, 1903, 60):
            if len(book[1]) <= 6:
                rooms = draw_rooms(chance, book)
                left = min(row.count(None) for row in all_in_rooms(book, rooms))
                self.assertEqual(self.check(book, rooms), left, (book, rooms))

    def test_greater_books(self):
        many = set()
        for chance, book in drawn(500, 1904):
            many.add(self.check(book, draw_rooms(chance, book)))
            self.assertEqual(self.check(book, (12,) * book[0]), 0)
            self.assertEqual(self.check(book, (0,) * book[0]), len(book[1]))
        self.assertGreater(len(many), 8)

    def test_a_full_hand_hands_on(self):
        # Each of the works comes to a hand that is full, but for the last one, through all the others.
        works = tuple([(hand, hand + 1) for hand in range(5)] + [(0,)])
        self.assertEqual(self.check((6, works), (1,) * 6), 0)
        self.assertEqual(self.check((6, works), (1, 1, 1, 1, 1, 0)), 1)
        self.assertEqual(self.check((6, works + ((0,), (5,))), (1,) * 6), 2)

    def test_written_ones(self):
        self.assertEqual(in_rooms(BOOK, (1, 1, 1)), ((1, 2, 0), ()))
        self.assertEqual(in_rooms((2, ((0,), (0,), (0, 1))), (1, 1))[1], (0,))
        self.assertEqual(in_rooms((2, ()), (0, 0)), ((), ()))
        self.assertEqual(in_rooms((1, ((0,),)), (0,)), ((None,), (0,)))
        self.assertEqual(in_rooms((2, ((0, 1),) * 3), (1, 0))[0].count(None), 2)

    def test_twelve_works_for_six_hands(self):
        self.assertEqual(in_a_moment(in_rooms, FULL, (12,) * 6)[1], ())
        self.assertEqual(in_a_moment(in_rooms, FULL, (2,) * 6)[1], ())
        self.assertEqual(in_a_moment(in_rooms, FULL, (2, 2, 2, 2, 2, 1))[1], (0, 1, 2, 3, 4, 5))

    def test_names(self):
        self.assertEqual(in_rooms(rooms=(1, 1, 1), book=BOOK), ((1, 2, 0), ()))


class IsInRooms(unittest.TestCase):

    def check(self, book, rooms, thing, answer):
        self.assertIs(is_in_rooms(book, rooms, thing), answer, (book, rooms, thing))

    def test_one_part_changed(self):
        # The texts of two things are alike only where kinds are, too.
        chance = random.Random(1905)
        answers = [0, 0]
        for count in range(500):
            book = draw_book(chance, 3, 4)
            rooms = draw_rooms(chance, book)
            rows = all_in_rooms(book, rooms)
            texts = {repr(row) for row in rows}
            for change in range(8):
                thing = chance.choice(rows)
                if chance.random() < 0.8:
                    thing = other_numbers(chance, thing) if None not in thing else spoiled(chance, thing)
                answers[repr(thing) in texts] += 1
                self.check(book, rooms, thing, repr(thing) in texts)
        self.assertGreater(min(answers), 500)

    def test_every_row(self):
        for rooms in itertools.product((0, 1, 2, 12), repeat=3):
            texts = {repr(row) for row in all_in_rooms(BOOK, rooms)}
            for row in itertools.product((None, 0, 1, 2, 3, -1, True), repeat=3):
                self.check(BOOK, rooms, row, repr(row) in texts)

    def test_anything(self):
        for thing in ODD:
            self.check(BOOK, (12, 12, 12), thing, False)
            for at in range(3):
                row = [None, 1, 0]
                row[at] = thing
                good = thing is None or repr(thing) in (("0", "1"), ("1", "2"), ("0",))[at]
                self.check(BOOK, (12, 12, 12), tuple(row), good)
                self.check(BOOK, (12, 12, 12), row, False)

    def test_edges(self):
        self.check((2, ()), (0, 0), (), True)
        self.check((2, ()), (0, 0), [], False)
        self.check((2, ()), (0, 0), (None,), False)
        self.check(FULL, (0,) * 6, (None,) * 12, True)
        self.check(FULL, (12,) * 6, (3,) * 12, True)
        self.check(FULL, (12, 12, 12, 11, 12, 12), (3,) * 12, False)
        self.check(FULL, (12, 12, 12, 11, 12, 12), (3,) * 11 + (None,), True)
        self.check(FULL, (12,) * 6, (3,) * 13, False)

    def test_names(self):
        self.assertIs(is_in_rooms(thing=(1, None, 0), rooms=(1, 1, 1), book=BOOK), True)


class DoBar(unittest.TestCase):

    def check(self, book, rooms, some, number):
        answer = is_bar(book, rooms, some, number)
        self.assertIs(do_bar(book, rooms, some, number), answer, (book, rooms, some, number))
        return answer

    def test_every_set_and_one_part_changed(self):
        answers = [0, 0]
        for chance, book in drawn(150, 1906):
            rooms = draw_rooms(chance, book)
            for some in [()] + subsets(book[0]):
                more = more_works(book, rooms, some)
                for number in (more - 1, more, more + 1, 0, chance.randint(-5, 12)):
                    answers[self.check(book, rooms, some, number)] += 1
                    answers[self.check(book, rooms, other_numbers(chance, some), number)] += 1
        self.assertGreater(min(answers), 2000)

    def test_any_whole_number(self):
        for some in ((), (0,), (0, 1), (0, 1, 2)):
            for number in (HUGE, -HUGE, 10 ** 5000, -10 ** 5000, -1, 0, 1):
                self.assertIs(do_bar(BOOK, (1, 0, 1), some, number), more_works(BOOK, (1, 0, 1), some) >= number)

    def test_no_rising_hands(self):
        for some in ((1, 0), (0, 0), (3,), (-1,), (0, 3), (-1, 0), (HUGE,), (0, 1, 2, 3), (0,) * 50, (2, 1, 0)):
            self.assertIs(do_bar(BOOK, (0, 0, 0), some, -HUGE), False, some)

    def test_other_things(self):
        for thing in ODD:
            good = repr(thing) in [repr(some) for some in [()] + subsets(3)]
            self.assertIs(do_bar(BOOK, (0, 0, 0), thing, -1), good, thing)

    def test_names(self):
        self.assertIs(do_bar(number=1, some=(0,), rooms=(0, 1, 1), book=BOOK), True)


class Refusals(unittest.TestCase):

    def check(self, book, rooms, error):
        self.assertIs(refusal(in_rooms, book, rooms), error, (book, rooms))
        for thing in ((1, 2, 0), (), None, [0]):
            self.assertIs(refusal(is_in_rooms, book, rooms, thing), error, (book, rooms))
        for some in ((), (0,), (9, 9)):
            self.assertIs(refusal(do_bar, book, rooms, some, 0), error, (book, rooms))

    def test_no_book_goes_ahead_of_all(self):
        for book in no_books():
            for rooms in ((1, 1, 1), (1, 1), (), None, [1]):
                self.check(book, rooms, NoBook)

    def test_then_no_rooms(self):
        for rooms in NO_ROOMS:
            self.check(BOOK, rooms, NoRooms)
        for thing in ODD:
            self.check(BOOK, thing, NoRooms)

    def test_nothing_else(self):
        for room in range(13):
            self.check(BOOK, (room, 12 - room, 0), None)
            self.check(FULL, (room,) * 6, None)
        for room in (-1, 13, 14, HUGE):
            for at in range(3):
                self.check(BOOK, (1,) * at + (room,) + (1,) * (2 - at), NoRooms)


if __name__ == "__main__":
    unittest.main()
