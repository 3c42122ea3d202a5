import random
import unittest

from ablehands.errors import NoBook, NoDeal, NoWeights, TooMany
from ablehands.weighed import do_show, least_most, weighed_loads
from tests.helper import (
    BOOK, FULL, HUGE, NO_DEALS, NO_WEIGHTS, ODD, all_deals, draw_book, draw_deal, draw_weights, drawn, in_a_moment,
    no_books, refusal, small_books, subsets,
)

GREATEST = (4, ((0, 1, 2, 3),) * 7)
TOO_GREAT = [(5, ()), (6, ((0,),)), (5, ((0, 4),) * 7), (4, ((0, 3),) * 8), (1, ((0,),) * 8), FULL]


def greatest(book, weights, deal):
    """The greatest weighed load, by adding up one hand after the other."""
    return max(sum(weight for weight, owner in zip(weights, deal) if owner == hand) for hand in range(book[0]))


def is_shown(book, weights, bar, number):
    """Whether the bar shows it of the number, as the document says it."""
    for some in subsets(book[0]):
        held = sum(weight for hand, weight in zip(bar, weights) if hand in some)
        rows = list(zip(book[1], weights))[len(bar):]
        held += sum(weight for able, weight in rows if set(able) <= set(some))
        if held > len(some) * (number - 1):
            return True
    return False


def are_bars(book, weights, bars, number):
    """Whether the bars show it, gone through deal by deal. The texts of tuples tell numbers from truths."""
    rows = [[repr(deal[:many]) for many in range(len(deal) + 1)] for deal in all_deals(book)]
    begun = {text for row in rows for text in row}
    told = {repr(bar) for bar in bars}
    if not told <= begun or not all(told & set(row) for row in rows):
        return False
    return all(is_shown(book, weights, bar, number) for bar in bars)


def drawn_few(many, seed, most=300):
    """Rows (chance, book, weights) of books of few hands and works, none with more deals than these."""
    chance = random.Random(seed)
    for count in range(many):
        book = draw_book(chance, 4, 7)
        if len(all_deals(book)) <= most:
            yield chance, book, draw_weights(chance, book)


def longer(chance, book, bar):
    """All bars that the bar begins and that have one hand more, perhaps one of them changed or left out."""
    able = book[1][len(bar)] if len(bar) < len(book[1]) else (0,)
    rows = [bar + (hand,) for hand in able]
    if chance.random() < 0.3:
        rows.pop(chance.randrange(len(rows)))
    elif chance.random() < 0.2:
        rows.append(bar + (chance.choice((-1, 4, 0, 1, HUGE)),))
    return rows


def other_bars(chance, book, bars):
    """The bars with one thing changed, which may leave them good."""
    rows = list(bars)
    at = chance.randrange(len(rows))
    bar = rows[at]
    deed = chance.randint(0, 7)
    if deed == 0:
        rows.pop(at)
    elif deed == 1:
        rows.insert(chance.randint(0, len(rows)), bar)
    elif deed == 2:
        rows[at:at + 1] = longer(chance, book, bar)
    elif deed == 3:
        rows[at] = bar[:-1]
    elif deed == 4 and bar:
        place = chance.randrange(len(bar))
        rows[at] = bar[:place] + (chance.choice((-1, 0, 1, 2, 3, 4, HUGE)),) + bar[place + 1:]
    elif deed == 5:
        chance.shuffle(rows)
    elif deed == 6:
        rows.append(tuple([chance.randint(-1, 4) for count in range(chance.randint(0, 8))]))
    else:
        rows.append(draw_deal(chance, book)[:chance.randint(0, 7)])
    return rows


class WeighedLoads(unittest.TestCase):

    def test_against_sums(self):
        for chance, book in drawn(300, 101):
            weights = draw_weights(chance, book)
            deal = draw_deal(chance, book)
            many = [0] * book[0]
            for hand, weight in zip(deal, weights):
                many[hand] += weight
            self.assertEqual(repr(weighed_loads(book, weights, deal)), repr(tuple(many)))

    def test_written_ones(self):
        self.assertEqual(weighed_loads(BOOK, (5, 0, 99), (0, 1, 0)), (104, 0, 0))
        self.assertEqual(weighed_loads(BOOK, (5, 7, 99), (1, 2, 0)), (99, 5, 7))
        self.assertEqual(weighed_loads((3, ()), (), ()), (0, 0, 0))
        self.assertEqual(weighed_loads(FULL, (99,) * 12, (5,) * 12), (0, 0, 0, 0, 0, 1188))

    def test_names(self):
        self.assertEqual(weighed_loads(deal=(1, 2, 0), weights=(5, 7, 99), book=BOOK), (99, 5, 7))

    def test_refusals(self):
        for book in no_books():
            for weights in ((1, 1, 1), (), None):
                for deal in ((0, 1, 0), (), None):
                    self.assertIs(refusal(weighed_loads, book, weights, deal), NoBook)
        for deal in NO_DEALS:
            for weights in NO_WEIGHTS + [(1, 1, 1)]:
                self.assertIs(refusal(weighed_loads, BOOK, weights, deal), NoDeal, (weights, deal))
        for weights in NO_WEIGHTS:
            self.assertIs(refusal(weighed_loads, BOOK, weights, (0, 1, 0)), NoWeights, weights)
        for book in TOO_GREAT:
            deal = tuple(able[-1] for able in book[1])
            self.assertIsNone(refusal(weighed_loads, book, (99,) * len(book[1]), deal))


class LeastMost(unittest.TestCase):

    def check(self, book, weights):
        told = least_most(book, weights)
        self.assertIsInstance(told, tuple)
        most, deal, bars = told
        self.assertEqual(repr(most), repr(min(greatest(book, weights, one) for one in all_deals(book))))
        self.assertIn(repr(deal), {repr(one) for one in all_deals(book)})
        self.assertEqual(greatest(book, weights, deal), most)
        self.assertIsInstance(bars, list)
        self.assertTrue(are_bars(book, weights, bars, most), (book, weights, bars))
        self.assertIs(do_show(book, weights, bars, most), True)
        self.assertIs(do_show(book, weights, bars, most + 1), False)

    def test_every_small_book(self):
        chance = random.Random(102)
        for book in small_books(3, 3):
            for count in range(3):
                self.check(book, draw_weights(chance, book))
            self.check(book, (0,) * len(book[1]))

    def test_drawn_ones(self):
        for chance, book, weights in drawn_few(250, 103, 1500):
            self.check(book, weights)

    def test_greatest_ones(self):
        for weights in ((99,) * 7, (63, 91, 8, 92, 11, 74, 83)):
            self.check(GREATEST, weights)

    def test_written_ones(self):
        self.assertEqual(least_most((2, ()), ()), (0, (), [()]))
        self.assertEqual(least_most((2, ((0, 1),)), (0,))[::2], (0, [()]))
        self.assertEqual(least_most((2, ((0, 1),) * 3), (1, 1, 1))[0], 2)
        # By parts alone no more than 6 could be shown of these.
        self.assertEqual(least_most((2, ((0, 1),) * 3), (4, 4, 4))[0], 8)
        self.assertEqual(least_most((2, ((0, 1), (0,), (1,))), (9, 5, 2)), (11, (1, 0, 1), [(0,), (1,)]))
        self.assertEqual(least_most(BOOK, (99, 99, 99)), (99, (1, 2, 0), [()]))

    def test_in_a_moment(self):
        for weights in ((63, 91, 8, 92, 11, 74, 83), (78, 2, 60, 0, 89, 31, 81), (0,) * 7, (1,) * 7, (0,) * 6 + (1,)):
            most, deal, bars = in_a_moment(least_most, GREATEST, weights)
            self.assertIs(in_a_moment(do_show, GREATEST, weights, bars, most), True)
        self.assertIs(in_a_moment(do_show, GREATEST, weights, all_deals(GREATEST), 1), True)
        self.assertIs(in_a_moment(do_show, GREATEST, weights, all_deals(GREATEST)[1:], 1), False)

    def test_each_list_is_a_new_one(self):
        told = least_most(BOOK, (1, 2, 3))
        told[2].clear()
        self.assertNotEqual(least_most(BOOK, (1, 2, 3))[2], [])

    def test_names(self):
        self.assertEqual(least_most(weights=(1, 2, 3), book=BOOK), least_most(BOOK, (1, 2, 3)))


class DoShow(unittest.TestCase):

    def check(self, book, weights, bars, number):
        answer = are_bars(book, weights, bars, number)
        self.assertIs(do_show(book, weights, bars, number), answer, (book, weights, bars, number))
        return answer

    def test_one_thing_changed(self):
        answers = [0, 0]
        for chance, book, weights in drawn_few(400, 104):
            most, deal, bars = least_most(book, weights)
            for change in range(8):
                changed = other_bars(chance, book, bars)
                answers[self.check(book, weights, changed, most)] += 1
                answers[self.check(book, weights, changed, most - chance.randint(0, 3))] += 1
        self.assertGreater(min(answers), 500)

    def test_other_numbers(self):
        answers = [0, 0]
        for chance, book, weights in drawn_few(100, 105):
            most, deal, bars = least_most(book, weights)
            for number in (most - 1, most, most + 1, 0, -1, 1, HUGE, -HUGE, chance.randint(-5, 300)):
                for some in (bars, [()], all_deals(book)):
                    answers[self.check(book, weights, some, number)] += 1
        self.assertGreater(min(answers), 300)

    def test_a_set_of_several_hands(self):
        # Neither of the hands alone has more than 4, both together have more than 8.
        book = (3, ((0, 1), (0, 1), (0, 1), (2,)))
        self.check(book, (3, 3, 3, 0), [()], 5)
        self.assertIs(do_show(book, (3, 3, 3, 0), [()], 5), True)
        self.assertIs(do_show(book, (3, 3, 3, 0), [()], 6), False)
        # The works behind the bar count only where they are able in the set alone.
        self.assertIs(do_show((2, ((0,), (0, 1))), (5, 5), [(0,)], 6), False)
        self.assertIs(do_show((2, ((0,), (0, 1))), (5, 5), [(0,)], 5), True)
        self.assertIs(do_show((2, ((0,), (0,))), (5, 5), [(0,)], 10), True)
        self.assertIs(do_show((2, ((0,), (0,))), (5, 5), [(0,)], 11), False)

    def test_bars_that_begin_no_deal_or_leave_one_out(self):
        for bars in ([], [(0,)], [(1,)], [(0,), (2,)], [(), (2,)], [(), (0, 0)], [(), (0, 1, 0, 0)], [(), (-1,)],
                     [(0,), (1, 1)], [(0,), (1, 1), (1, 2, 1)], [(), (HUGE,)], [(), (0, -2)], [(), (3,)]):
            self.assertIs(do_show(BOOK, (1, 1, 1), bars, 0), False, bars)
            self.check(BOOK, (1, 1, 1), bars, 0)
        for bars in ([()], [(), ()], [(0,), (1,)], [(1,), (0,), ()], [(0,), (1, 1), (1, 2, 0)], [(), (0, 1, 0)]):
            self.assertIs(do_show(BOOK, (1, 1, 1), bars, 0), True, bars)
            self.check(BOOK, (1, 1, 1), bars, 0)

    def test_without_works(self):
        for number in range(-3, 4):
            self.assertIs(do_show((2, ()), (), [()], number), number <= 0)
            self.assertIs(do_show((2, ()), (), [], number), False)
            self.assertIs(do_show((2, ()), (), [(0,)], number), False)

    def test_other_things_than_bars(self):
        for thing in ODD:
            good = repr(thing) in ("()", "(0,)", "(1,)", "(0, 1)")
            self.assertIs(do_show(BOOK, (1, 1, 1), [(), thing], 0), good, thing)
            self.assertIs(do_show(BOOK, (1, 1, 1), thing, 0), False, thing)

    def test_names(self):
        self.assertIs(do_show(number=1, bars=[()], weights=(1, 1, 1), book=BOOK), True)


class Refusals(unittest.TestCase):

    def check(self, book, weights, error):
        self.assertIs(refusal(least_most, book, weights), error, (book, weights))
        for bars in ([()], [], [(9,)]):
            for number in (0, HUGE):
                self.assertIs(refusal(do_show, book, weights, bars, number), error, (book, weights))

    def test_no_book_goes_ahead_of_all(self):
        for book in no_books():
            for weights in ((), (1, 1, 1), None, [1], (-1,)):
                self.check(book, weights, NoBook)

    def test_then_no_weights(self):
        for weights in NO_WEIGHTS:
            self.check(BOOK, weights, NoWeights)
        for book in TOO_GREAT:
            for weights in ((1,) * (len(book[1]) + 1), [1] * len(book[1]), (100,) * 13, None):
                self.check(book, weights, NoWeights)

    def test_then_too_many(self):
        for book in TOO_GREAT:
            for weight in (0, 1, 99):
                self.check(book, (weight,) * len(book[1]), TooMany)

    def test_nothing_else(self):
        for book in (GREATEST, BOOK, (4, ()), (1, ((0,),) * 7), (4, ((3,),) * 7)):
            for weight in (0, 1, 99):
                self.check(book, (weight,) * len(book[1]), None)


if __name__ == "__main__":
    unittest.main()
