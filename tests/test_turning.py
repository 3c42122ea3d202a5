import copy
import itertools
import random
import unittest

from ablehands.books import is_deal
from ablehands.errors import NoBook, NoDeal
from ablehands.loads import no_less_even, waits
from ablehands.turning import are_levels, bettered, evenest, levels_or_way
from ablehands.ways import betters, gone, is_way
from tests.helper import (
    BOOK, FULL, HUGE, NO_DEALS, ODD, all_deals, all_ways, check_of_a_book, counted, draw_deal, drawn, even_sums,
    evenest_ones, few_deals, in_a_moment, no_books, refusal, small_books,
)

DEAL = (0, 1, 0)


def stand(book, deal, levels):
    """Whether these are levels, as the document says it."""
    many = counted(book, deal)
    if len(levels) != book[0] or any(many[hand] - levels[hand] not in (0, 1) for hand in range(book[0])):
        return False
    return all(levels[deal[work]] <= min(levels[hand] for hand in book[1][work]) for work in range(len(deal)))


def some_way_betters(book, deal):
    """Whether a hand leads to one with a load less by 2 or more, by joining ways over each hand in turn."""
    leads = {(hand, hand) for hand in range(book[0])}
    leads |= {(deal[work], other) for work in range(len(deal)) for other in book[1][work]}
    for middle, one, other in itertools.product(range(book[0]), repeat=3):
        if (one, middle) in leads and (middle, other) in leads:
            leads.add((one, other))
    many = counted(book, deal)
    return any(many[one] - many[other] >= 2 for one, other in leads)


class Levels(unittest.TestCase):

    def test_every_tuple_of_small_books(self):
        for book in small_books(3, 2):
            best = evenest_ones(book)
            for deal in all_deals(book):
                found = []
                for levels in itertools.product(range(-2, 4), repeat=book[0]):
                    answer = stand(book, deal, levels)
                    found.append(answer)
                    self.assertIs(are_levels(book, deal, levels), answer, (book, deal, levels))
                # Levels, no way that betters, and evenest: all three or none.
                self.assertIs(any(found), deal in best)
                self.assertIs(any(betters(book, deal, some) for some in all_ways(book, deal)), deal not in best)

    def test_of_drawn_deals(self):
        answers = [0, 0]
        for chance, book in drawn(300, 21):
            for deal in (draw_deal(chance, book), evenest(book)[0]):
                many = counted(book, deal)
                tuples = list(itertools.product(*[(load, load - 1) for load in many]))
                tuples += [many + (0,), many[1:], many + many, (), tuple(load + 1 for load in many),
                           tuple(load - 2 for load in many), (HUGE,) * book[0], many[:-1] + (-HUGE,)]
                for levels in tuples:
                    answer = stand(book, deal, levels)
                    answers[answer] += 1
                    self.assertIs(are_levels(book, deal, levels), answer, (book, deal, levels))
        self.assertGreater(min(answers), 300)

    def test_written_ones(self):
        book = (3, ((0, 1), (0, 1), (1, 2)))
        self.assertIs(are_levels(book, (0, 1, 2), (1, 1, 1)), True)
        self.assertIs(are_levels(book, (0, 1, 2), (0, 0, 0)), True)
        self.assertIs(are_levels(book, (0, 1, 2), (0, 0, 1)), False)
        self.assertIs(are_levels(book, (0, 1, 2), (1, 1, 0)), True)
        self.assertIs(are_levels(book, (0, 1, 2), (1, 0, 0)), False)
        self.assertIs(are_levels(book, (0, 0, 1), (1, 0, 0)), False)
        self.assertIs(are_levels((1, ()), (), (-1,)), True)
        self.assertIs(are_levels((1, ()), (), (-2,)), False)
        self.assertIs(are_levels((1, ()), (), (1,)), False)

    def test_other_things_are_none(self):
        for thing in [[0], [1], None, "0", (True,), (False,), (None,), ("1",), ((1,),), {0: 1}, 1]:
            self.assertIs(are_levels((1, ((0,),)), (0,), thing), False, thing)
        self.assertIs(are_levels((1, ((0,),)), (0,), (1,)), True)

    def test_nothing_is_changed(self):
        for levels in ((1, 1, 1), (), (HUGE,)):
            self.assertIsNone(refusal(are_levels, BOOK, DEAL, levels))


class Turning(unittest.TestCase):

    def check(self, book, deal):
        """What is told of the deal, looked at by what it says; the word of it."""
        told = levels_or_way(book, deal)
        self.assertIsInstance(told, tuple)
        word, shown = told
        self.assertIs(word == "way", some_way_betters(book, deal), (book, deal))
        if word == "way":
            self.assertIs(is_way(book, deal, shown), True, (book, deal, shown))
            self.assertIs(betters(book, deal, shown), True, (book, deal, shown))
        else:
            self.assertEqual(word, "levels")
            self.assertIsInstance(shown, tuple)
            self.assertTrue(stand(book, deal, shown), (book, deal, shown))
            self.assertIs(are_levels(book, deal, shown), True)
        return word

    def test_every_deal_of_small_books(self):
        for book in small_books(3, 3):
            best = evenest_ones(book)
            for deal in all_deals(book):
                self.assertEqual(self.check(book, deal), "levels" if deal in best else "way")

    def test_deals_of_books_with_few(self):
        words = []
        for book in few_deals(100, 22, 150):
            best = evenest_ones(book)
            for deal in all_deals(book):
                words.append(self.check(book, deal))
                self.assertEqual(words[-1], "levels" if deal in best else "way")
        self.assertGreater(min(words.count("levels"), words.count("way")), 200)

    def test_drawn_deals(self):
        for chance, book in drawn(400, 23):
            self.check(book, draw_deal(chance, book))
            self.assertEqual(self.check(book, evenest(book)[0]), "levels")

    def test_a_way_of_many_steps(self):
        # Each hand hands on to the next alone, and only the last has nothing.
        book = (6, ((0,), (0, 1), (1, 2), (2, 3), (3, 4), (4, 5)))
        deal = (0, 0, 1, 2, 3, 4)
        word, some = levels_or_way(book, deal)
        self.assertEqual(word, "way")
        self.assertEqual(some, [(hand + 1, hand, hand + 1) for hand in range(5)])
        self.assertEqual(bettered(book, deal), ([some], (0, 1, 2, 3, 4, 5)))

    def test_bettered_goes_way_by_way(self):
        lengths = set()
        for chance, book in drawn(400, 24):
            deal = draw_deal(chance, book) if chance.random() < 0.5 else tuple(able[0] for able in book[1])
            ways, behind = bettered(book, deal)
            self.assertIsInstance(ways, list)
            lengths.add(len(ways))
            at = deal
            for some in ways:
                self.assertIs(betters(book, at, some), True)
                ahead, at = at, gone(book, at, some)
                self.assertLess(waits(book, at), waits(book, ahead))
                self.assertIs(no_less_even(book, at, ahead), True)
                self.assertIs(no_less_even(book, ahead, at), False)
            self.assertEqual(repr(at), repr(behind))
            self.assertEqual(levels_or_way(book, behind)[0], "levels")
        self.assertTrue({0, 1, 2, 3} <= lengths)

    def test_evenest_has_levels(self):
        for chance, book in drawn(400, 25):
            told = evenest(book)
            self.assertIsInstance(told, tuple)
            deal, levels = told
            self.assertIs(is_deal(book, deal), True)
            self.assertTrue(stand(book, deal, levels), (book, deal, levels))
            self.assertFalse(some_way_betters(book, deal))
            for count in range(5):
                self.assertIs(no_less_even(book, deal, draw_deal(chance, book)), True)

    def test_evenest_against_all_deals(self):
        for book in few_deals(150, 26):
            deal = evenest(book)[0]
            sums = even_sums(counted(book, deal))
            for other in all_deals(book):
                self.assertIs(no_less_even(book, deal, other), True, (book, deal, other))
                self.assertTrue(all(mine <= yours for mine, yours in zip(sums, even_sums(counted(book, other)))))
                self.assertLessEqual(waits(book, deal), waits(book, other))

    def test_alike_works_and_works_of_one_hand(self):
        self.assertEqual(sorted(counted(FULL, evenest(FULL)[0])), [2] * 6)
        book = (3, ((0,),) * 5 + ((0, 1, 2),) * 7)
        self.assertEqual(counted(book, evenest(book)[0])[0], 5)
        self.assertEqual(sorted(counted(book, evenest(book)[0])), [3, 4, 5])
        for hands in range(1, 7):
            self.assertEqual(evenest((hands, ()))[0], ())
            self.assertEqual(evenest((hands, ((hands - 1,),) * 12))[0], (hands - 1,) * 12)

    def test_each_list_is_a_new_one(self):
        deal = (0,) * 12
        ways, behind = bettered(FULL, deal)
        kept = copy.deepcopy(ways)
        ways[0].append((0, 0, 0))
        ways.clear()
        self.assertEqual(bettered(FULL, deal), (kept, behind))
        some = levels_or_way(FULL, deal)[1]
        kept = copy.deepcopy(some)
        some.append(None)
        self.assertEqual(levels_or_way(FULL, deal), ("way", kept))
        ways, behind = bettered(BOOK, (1, 2, 0))
        self.assertEqual(ways, [])
        ways.append([(0, 0, 0)])
        self.assertEqual(bettered(BOOK, (1, 2, 0)), ([], (1, 2, 0)))

    def test_what_is_told_is_not_what_was_handed_in(self):
        deal = evenest(FULL)[0]
        ways, behind = bettered(FULL, deal)
        self.assertEqual((ways, behind), ([], deal))
        self.assertIsNot(behind, deal)

    def test_names(self):
        self.assertIs(are_levels(levels=(1, 1, 1), deal=(1, 2, 0), book=BOOK), True)
        self.assertEqual(levels_or_way(deal=DEAL, book=BOOK)[0], "way")
        self.assertEqual(bettered(deal=DEAL, book=BOOK)[1], (1, 2, 0))
        self.assertEqual(evenest(book=BOOK)[0], (1, 2, 0))

    def test_in_a_moment(self):
        chance = random.Random(27)
        for deal in [(0,) * 12, (5,) * 12] + [draw_deal(chance, FULL) for count in range(5)]:
            in_a_moment(are_levels, FULL, deal, (2,) * 6)
            in_a_moment(levels_or_way, FULL, deal)
            self.assertEqual(waits(FULL, in_a_moment(bettered, FULL, deal)[1]), 18)
        self.assertEqual(waits(FULL, in_a_moment(evenest, FULL)[0]), 18)


class Refusals(unittest.TestCase):

    def test_no_book_goes_ahead_of_all(self):
        for book in no_books():
            for deal in [DEAL, ()] + NO_DEALS:
                self.assertIs(refusal(are_levels, book, deal, (1, 1, 1)), NoBook, (book, deal))
                self.assertIs(refusal(levels_or_way, book, deal), NoBook, (book, deal))
                self.assertIs(refusal(bettered, book, deal), NoBook, (book, deal))

    def test_then_no_deal(self):
        for deal in NO_DEALS:
            for levels in ((1, 1, 1), (), (HUGE,), (2, 1, 0)):
                self.assertIs(refusal(are_levels, BOOK, deal, levels), NoDeal, deal)
            self.assertIs(refusal(levels_or_way, BOOK, deal), NoDeal, deal)
            self.assertIs(refusal(bettered, BOOK, deal), NoDeal, deal)

    def test_nothing_else(self):
        check_of_a_book(evenest)
        for thing in ODD:
            self.assertIsNone(refusal(are_levels, BOOK, DEAL, thing))


if __name__ == "__main__":
    unittest.main()
