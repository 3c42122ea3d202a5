import copy
import random
import unittest

from ablehands.books import is_deal
from ablehands.errors import NoBook, NoDeal, NoWay
from ablehands.ways import betters, gone, is_way
from tests.helper import (
    BOOK, FULL, HUGE, NO_DEALS, ODD, all_deals, all_ways, counted, draw_deal, drawn, few_deals, in_a_moment, no_books,
    refusal, small_books,
)

DEAL = (0, 1, 0)
WAY = [(0, 0, 1), (1, 1, 2)]

# No ways of DEAL, each by one fault.
NO_WAYS = [
    [], [()], [(0,)], [(0, 0)], [(0, 0, 1, 1)], [(), (0, 0, 1)], [(0, 0, 1), ()],
    [(0, 1, 0)], [(0, 1, 2)], [(1, 0, 2)], [(0, 0, 0)], [(2, 0, 0)], [(0, 0, 2)], [(2, 0, 1)], [(1, 1, 0)],
    [(3, 0, 1)], [(-1, 0, 1)], [(-3, 0, 1)], [(0, 0, 3)], [(0, 0, -1)], [(0, -3, 1)], [(HUGE, 0, 1)], [(-HUGE, 0, 1)],
    [(0, 0, HUGE)], [(0, -HUGE, 1)], [(0, 0, 1), (0, 0, 1)], [(1, 1, 2), (0, 0, 1)], [(0, 0, 1), (0, 1, 0)],
    [(1, 1, 2), (1, 2, 1)], [(0, 0, 1), (1, 1, 2), (2, 0, 1)], [(0, 0, 1), (1, 1, 0)], [(1, 1, 1)],
]
# Things of other kinds, which are no ways either.
OTHERS = [None, 0, "", "way", {}, tuple(WAY), [[0, 0, 1]], [(0, 0, True)], [(False, 0, 1)], [None], [(0, 0, "1")],
          [(0, 0, None)], [((0,), 0, 1)], [0, 0, 1]]


def changed(chance, some, hands, works):
    """The list with something changed in it, which may leave it a way."""
    some = list(some)
    at = chance.randrange(len(some))
    step = list(some[at])
    deed = chance.randint(0, 7)
    if deed == 0:
        some.pop(at)
    elif deed == 1:
        some.insert(at, some[chance.randrange(len(some))])
    elif deed == 2:
        some.reverse()
    elif deed == 3:
        some[at] = tuple(step[:chance.randint(0, 2)])
    elif deed == 4:
        some[at] = tuple(step + [chance.randint(-1, hands)])
    elif deed == 5:
        some.append((chance.randint(-1, works), some[-1][2], chance.randint(-1, hands)))
    else:
        step[chance.randrange(3)] = chance.randint(-2, max(hands, works))
        some[at] = tuple(step)
    return some


class Ways(unittest.TestCase):

    def test_written_ones(self):
        self.assertIs(is_way(BOOK, DEAL, WAY), True)
        self.assertEqual(gone(BOOK, DEAL, WAY), (1, 2, 0))
        self.assertIs(betters(BOOK, DEAL, WAY), True)
        self.assertIs(betters(BOOK, DEAL, WAY[:1]), False)
        self.assertIs(betters(BOOK, DEAL, WAY[1:]), False)

    def test_faults(self):
        for some in NO_WAYS + OTHERS:
            self.assertIs(is_way(BOOK, DEAL, some), False, some)

    def test_every_step_of_small_books(self):
        for book in small_books(3, 2):
            for deal in all_deals(book):
                ways = all_ways(book, deal)
                for work in range(-3, 4):
                    for hand in range(-3, 5):
                        for other in range(-3, 5):
                            some = [(work, hand, other)]
                            self.assertIs(is_way(book, deal, some), some in ways, (book, deal, some))

    def test_changed_ones_against_all_ways(self):
        chance = random.Random(11)
        answers = [0, 0]
        for book in few_deals(150, 12):
            deal = draw_deal(chance, book)
            ways = all_ways(book, deal)[:3000]
            for count in range(30 if ways and len(ways) < 3000 else 0):
                some = changed(chance, chance.choice(ways), book[0], len(deal))
                answers[some in ways] += 1
                self.assertIs(is_way(book, deal, some), some in ways, (book, deal, some))
        self.assertGreater(min(answers), 300)

    def test_gone_and_betters_of_drawn_ways(self):
        answers = [0, 0]
        for chance, book in drawn(600, 13):
            deal = draw_deal(chance, book)
            some = self.draw_way(chance, book, deal)
            if some:
                self.assertIs(is_way(book, deal, some), True, (book, deal, some))
                self.check_behind(book, deal, some, answers)
        self.assertGreater(min(answers), 50)

    def draw_way(self, chance, book, deal):
        hand = chance.randrange(book[0])
        passed, some = [hand], []
        for count in range(chance.randint(1, 5)):
            steps = [(work, hand, other) for work in range(len(deal)) for other in book[1][work]
                     if deal[work] == hand and other not in passed]
            if steps:
                some.append(chance.choice(steps))
                hand = some[-1][2]
                passed.append(hand)
        return some

    def check_behind(self, book, deal, some, answers):
        kept = copy.deepcopy(some)
        moves = {work: other for work, hand, other in some}
        behind = gone(book, deal, some)
        self.assertEqual(repr(behind), repr(tuple(moves.get(work, deal[work]) for work in range(len(deal)))))
        self.assertIs(is_deal(book, behind), True)
        many = counted(book, deal)
        answer = many[some[0][1]] >= many[some[-1][2]] + 2
        answers[answer] += 1
        self.assertIs(betters(book, deal, some), answer)
        self.assertEqual(some, kept)

    def test_one_less_does_not_better_two_do(self):
        book = (2, ((0, 1),) * 5)
        self.assertIs(betters(book, (0, 0, 0, 1, 1), [(0, 0, 1)]), False)
        self.assertIs(betters((2, ((0, 1),) * 4), (0, 0, 0, 1), [(2, 0, 1)]), True)
        self.assertIs(betters((2, ((0, 1),) * 4), (0, 0, 1, 1), [(0, 0, 1)]), False)
        self.assertIs(betters(book, (0, 0, 0, 1, 1), [(4, 1, 0)]), False)

    def test_a_way_over_all_hands(self):
        book = (6, tuple((hand, hand + 1) for hand in range(5)) + ((0,), (0, 5)))
        deal = (0, 1, 2, 3, 4, 0, 0)
        some = [(hand, hand, hand + 1) for hand in range(5)]
        self.assertIs(is_way(book, deal, some), True)
        self.assertIs(betters(book, deal, some), True)
        self.assertEqual(gone(book, deal, some), (1, 2, 3, 4, 5, 0, 0))
        # Round to the first hand again: it would be in it twice.
        self.assertIs(is_way(book, (0, 1, 2, 3, 4, 0, 5), some + [(6, 5, 0)]), False)

    def test_without_works(self):
        for hands in range(1, 7):
            for some in NO_WAYS:
                self.assertIs(is_way((hands, ()), (), some), False)

    def test_names_and_moments(self):
        self.assertIs(is_way(some=WAY, deal=DEAL, book=BOOK), True)
        self.assertEqual(gone(some=WAY, deal=DEAL, book=BOOK), (1, 2, 0))
        self.assertIs(betters(some=WAY, deal=DEAL, book=BOOK), True)
        some = [(11, 0, 5), (10, 5, 4), (9, 4, 3)]
        deal = (0,) * 9 + (4, 5, 0)
        self.assertIs(in_a_moment(is_way, FULL, deal, some), True)
        self.assertIs(in_a_moment(betters, FULL, deal, some), True)
        self.assertEqual(in_a_moment(gone, FULL, deal, some), (0,) * 9 + (3, 4, 5))
        self.assertIs(in_a_moment(is_way, FULL, deal, [(0, 0, 1)] * 20000), False)


class Refusals(unittest.TestCase):

    def test_no_book_goes_ahead_of_all(self):
        for book in no_books():
            for deal, some in ((DEAL, WAY), (None, WAY), (DEAL, []), ([0], [(0, 1)]), ((), None)):
                for tell in (is_way, gone, betters):
                    self.assertIs(refusal(tell, book, deal, some), NoBook, (tell, book, deal, some))

    def test_then_no_deal(self):
        for deal in NO_DEALS:
            for some in [WAY] + NO_WAYS + OTHERS:
                for tell in (is_way, gone, betters):
                    self.assertIs(refusal(tell, BOOK, deal, some), NoDeal, (tell, deal, some))

    def test_then_no_way(self):
        for some in NO_WAYS + OTHERS + ODD:
            self.assertIsNone(refusal(is_way, BOOK, DEAL, some))
            self.assertIs(refusal(gone, BOOK, DEAL, some), NoWay, some)
            self.assertIs(refusal(betters, BOOK, DEAL, some), NoWay, some)

    def test_a_way_is_never_refused(self):
        for tell in (is_way, gone, betters):
            self.assertIsNone(refusal(tell, BOOK, DEAL, WAY))


if __name__ == "__main__":
    unittest.main()
