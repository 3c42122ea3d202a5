import random
import unittest

from ablehands.dealing import Dealing
from ablehands.errors import NoBook, NoHand, NoWork, TooMany
from ablehands.ways import is_way
from tests.helper import HUGE, ODD, counted, even_sums, evenest_ones, in_a_moment, refusal

NO_HANDS = [None, True, False, 0, -1, 7, 8, HUGE, -HUGE, "", "3", "hands 3", (), (3,), [3], {}, {3: 3}, (3, ())]
NO_WORKS = [
    None, True, 0, 1, "", "0", "0 1", {}, {0: 1}, [], [0], [0, 1], (), (3,), (0, 3), (-1,), (-1, 0), (1, 0), (0, 0),
    (0, 1, 1), (0, 2, 1), (True,), (False,), (0, True), (False, 1), (None,), ("0",), (0, "1"), ((0,),), ([0],),
    (0, 1, 2, 3), (HUGE,), (-HUGE,), (0, None), ({},),
]


def seen(dealing):
    """All that the dealing tells, as texts: numbers and truths, tuples and lists differ there."""
    told = (dealing.works(), dealing.deal(), dealing.loads(), dealing.levels(), dealing.moved())
    return tuple([repr(thing) for thing in told])


def refused(deed, *handed):
    """The class with which the deed refuses; the dealing must be as ahead of it."""
    before = seen(deed.__self__)
    error = refusal(deed, *handed)
    if error is not None:
        assert seen(deed.__self__) == before, (deed, handed)
    return error


def draw_work(chance, hands):
    return tuple(sorted(chance.sample(range(hands), chance.randint(1, min(hands, chance.choice((1, 2, 2, 6)))))))


def are_levels_of(works, deal, loads, levels):
    """Whether they are levels, as the document says it."""
    near = all(level in (load, load - 1) for level, load in zip(levels, loads))
    low = all(levels[deal[number]] <= levels[other] for number in works for other in works[number])
    return len(levels) == len(loads) and near and low


class Followed:
    """A Dealing, and what must be true of it: told by the document, and looked at behind each deed."""

    def __init__(self, test, hands):
        self.test = test
        self.dealing = Dealing(hands)
        self.hands = hands
        self.works = {}
        self.next = 0
        self.in_all = 0
        self.longest = 0
        self.look({}, {}, None)
        test.assertEqual(repr(self.dealing.moved()), "(0, 0)")

    def look(self, works_ahead, deal_ahead, taken):
        """The works, loads, levels and moved works behind a deed."""
        test, dealing = self.test, self.dealing
        deal = dealing.deal()
        test.assertEqual(repr(dealing.works()), repr(self.works))
        test.assertEqual(list(deal), list(self.works))
        for number in deal:
            test.assertIn(repr(deal[number]), [repr(hand) for hand in self.works[number]])
        test.assertEqual(repr(dealing.loads()), repr(counted((self.hands, ()), deal.values())))
        test.assertIsInstance(dealing.levels(), tuple)
        test.assertTrue(are_levels_of(self.works, deal, dealing.loads(), dealing.levels()), seen(dealing))
        many = self.look_moved(works_ahead, deal_ahead, deal, taken)
        self.in_all += many
        test.assertEqual(repr(dealing.moved()), repr((many, self.in_all)))
        self.longest = max(self.longest, many)

    def look_moved(self, works_ahead, deal_ahead, deal, taken):
        """How many works were moved: none, or just those of one way of the deal ahead."""
        numbers = list(works_ahead)
        both = [number for number in numbers if number in deal]
        moves = [(number, deal_ahead[number], deal[number]) for number in both if deal_ahead[number] != deal[number]]
        self.test.assertLess(len(moves), self.hands)
        if moves:
            steps = {giver: (numbers.index(number), giver, taker) for number, giver, taker in moves}
            takers = [taker for number, giver, taker in moves]
            first = [giver for giver in steps if giver not in takers]
            self.test.assertEqual(len(first), 1, moves)
            some = [steps[first[0]]]
            while some[-1][2] in steps:
                some.append(steps[some[-1][2]])
            self.test.assertEqual(len(some), len(moves), moves)
            book = (self.hands, tuple(works_ahead.values()))
            self.test.assertTrue(is_way(book, tuple(deal_ahead.values()), some), (book, deal_ahead, some))
            self.test.assertNotIn(taken, [number for number, giver, taker in moves])
        return len(moves)

    def put(self, able):
        works, deal = dict(self.works), self.dealing.deal()
        if len(works) == 12:
            self.test.assertIs(refused(self.dealing.put, able), TooMany)
            return
        self.test.assertEqual(repr(self.dealing.put(able)), repr(self.next))
        self.works[self.next] = able
        self.next += 1
        self.look(works, deal, None)

    def take(self, number):
        works, deal = dict(self.works), self.dealing.deal()
        if number not in works:
            self.test.assertIs(refused(self.dealing.take, number), NoWork)
            return
        self.test.assertIsNone(self.dealing.take(number))
        del self.works[number]
        self.look(works, deal, number)

    def come(self):
        deal = self.dealing.deal()
        if self.hands == 6:
            self.test.assertIs(refused(self.dealing.come), TooMany)
            return
        self.test.assertEqual(repr(self.dealing.come()), repr(self.hands))
        self.hands += 1
        self.stay(deal)

    def go(self):
        deal = self.dealing.deal()
        if self.hands == 1 or any(self.hands - 1 in able for able in self.works.values()):
            self.test.assertIs(refused(self.dealing.go), NoHand)
            return
        self.test.assertIsNone(self.dealing.go())
        self.hands -= 1
        self.stay(deal)

    def stay(self, deal):
        """No work is moved when a hand comes or goes."""
        self.test.assertEqual(self.dealing.deal(), deal)
        self.look(self.works, deal, None)

    def draw_deed(self, chance, more):
        """A deed drawn; more, from 0 to 1, tells how often works come rather than go."""
        if chance.random() < 0.15:
            chance.choice((self.come, self.go))()
        elif chance.random() < more:
            self.put(draw_work(chance, self.hands))
        elif self.works and chance.random() < 0.95:
            self.take(chance.choice(list(self.works)))
        else:
            self.take(chance.choice((-1, self.next, self.next + 1, HUGE, chance.randint(0, self.next))))


class Runs(unittest.TestCase):

    def test_long_runs(self):
        longest = 0
        for seed in range(40):
            chance = random.Random(1200 + seed)
            followed = Followed(self, chance.randint(1, 6))
            for count in range(120):
                followed.draw_deed(chance, chance.choice((0.3, 0.5, 0.7)))
            longest = max(longest, followed.longest)
        self.assertGreaterEqual(longest, 3)

    def test_full_runs(self):
        for seed in range(20):
            chance = random.Random(1300 + seed)
            followed = Followed(self, 6)
            for count in range(100):
                followed.draw_deed(chance, 0.85)

    def test_against_all_deals(self):
        for seed in range(25):
            chance = random.Random(1400 + seed)
            followed = Followed(self, chance.randint(1, 4))
            for count in range(30):
                followed.draw_deed(chance, 0.5 if len(followed.works) < 5 else 0.2)
                book = (followed.hands, tuple(followed.works.values()))
                best = even_sums(counted(book, evenest_ones(book)[0]))
                self.assertEqual(even_sums(followed.dealing.loads()), best)

    def test_a_way_through_all_hands(self):
        for hands in range(2, 7):
            followed = Followed(self, hands)
            for hand in range(hands - 1):
                # The next hand is held for a while, so that the work goes to this one.
                followed.put((hand + 1,))
                followed.put((hand, hand + 1))
                followed.take(2 * hand)
            self.assertEqual(followed.dealing.loads(), (1,) * (hands - 1) + (0,))
            self.assertEqual(followed.dealing.moved(), (0, 0))
            followed.put((0,))
            self.assertEqual(followed.dealing.moved(), (hands - 1, hands - 1))
            self.assertEqual(followed.dealing.loads(), (1,) * hands)
            followed.put((hands - 1,))
            followed.take(2 * hands - 2)
            self.assertEqual(followed.dealing.moved(), (hands - 1, 2 * hands - 2))
            self.assertEqual(followed.dealing.loads(), (1,) * hands)

    def test_numbers_come_no_more(self):
        followed = Followed(self, 2)
        for number in range(30):
            followed.put((0, 1))
            followed.take(number)
            followed.take(number)
        followed.put((1,))
        self.assertEqual(followed.dealing.works(), {30: (1,)})
        self.assertEqual(followed.dealing.deal(), {30: 1})

    def test_hands_come_and_go(self):
        followed = Followed(self, 1)
        for count in range(3):
            for hand in range(6):
                followed.come()
            followed.put((5,))
            followed.go()
            followed.take(count)
            for hand in range(6):
                followed.go()
        followed.put((0,))
        followed.come()
        followed.come()
        followed.go()
        followed.put((0, 1))
        followed.go()
        self.assertEqual(followed.dealing.loads(), (1, 1))

    def test_the_last_deed_moved_none(self):
        for deed in ("come", "go", "put"):
            followed = Followed(self, 3)
            for able in ((1,), (0, 1), (0,)):
                followed.put(able)
            followed.put((0, 1))
            followed.put((0,))
            followed.take(0)
            if deed == "put":
                followed.put((2,))
            else:
                getattr(followed, deed)()
            self.assertEqual(followed.dealing.moved(), (0, followed.in_all))

    def test_twelve_works_and_six_hands(self):
        followed = Followed(self, 6)
        for number in range(13):
            followed.put(tuple(range(6)))
        self.assertEqual(followed.dealing.loads(), (2,) * 6)
        followed.come()
        followed.take(3)
        followed.put((0,))
        self.assertEqual(list(followed.dealing.works()), [0, 1, 2, 4, 5, 6, 7, 8, 9, 10, 11, 12])

    def test_in_a_moment(self):
        dealing = Dealing(6)
        for number in range(12):
            in_a_moment(dealing.put, tuple(range(6)))
        in_a_moment(dealing.take, 5)
        in_a_moment(dealing.levels)


class Apart(unittest.TestCase):

    def test_two_dealings_by_turns(self):
        texts = []
        for turns in ((0,), (1,), (0, 1)):
            chances = [random.Random(1501), random.Random(1502)]
            both = [Followed(self, 3), Followed(self, 3)]
            for count in range(150):
                for one in turns:
                    both[one].draw_deed(chances[one], 0.6)
            texts.append([seen(followed.dealing) for followed in both])
        self.assertEqual(texts[2], [texts[0][0], texts[1][1]])
        self.assertNotEqual(texts[0][0], texts[1][1])

    def filled(self):
        dealing = Dealing(3)
        for able in ((0, 1), (1, 2), (0,), (0, 1, 2)):
            dealing.put(able)
        return dealing

    def test_what_is_told_is_the_askers_own(self):
        dealing = self.filled()
        before = seen(dealing)
        for tell in (dealing.works, dealing.deal):
            told = tell()
            told[0] = None
            told[77] = (0,)
            self.assertIsNot(tell(), told)
            self.assertEqual(seen(dealing), before)
            told.clear()
            self.assertEqual(seen(dealing), before)
        dealing.put((2,))
        self.assertEqual(dealing.works(), {0: (0, 1), 1: (1, 2), 2: (0,), 3: (0, 1, 2), 4: (2,)})

    def test_what_was_told_stays_behind_a_deed(self):
        dealing = self.filled()
        works, deal, before = dealing.works(), dealing.deal(), seen(dealing)
        dealing.put((0,))
        dealing.take(0)
        self.assertEqual((repr(works), repr(deal)), before[:2])

    def test_what_is_asked_changes_nothing(self):
        dealing = self.filled()
        dealing.take(1)
        before = seen(dealing)
        for count in range(3):
            self.assertEqual(seen(dealing), before)

    def test_names(self):
        dealing = Dealing(hands=2)
        self.assertEqual(dealing.put(able=(0, 1)), 0)
        self.assertIsNone(dealing.take(number=0))


class Refusals(unittest.TestCase):

    def full(self):
        dealing = Dealing(3)
        for number in range(12):
            dealing.put((number % 3,))
        return dealing

    def test_hands(self):
        for thing in NO_HANDS:
            self.assertIs(refusal(Dealing, thing), NoBook, thing)
        for thing in ODD:
            good = repr(thing) in ("1", "2", "3")
            self.assertIs(refusal(Dealing, thing), None if good else NoBook, thing)
        for hands in range(1, 7):
            self.assertEqual(Dealing(hands).loads(), (0,) * hands)

    def test_works(self):
        for thing in NO_WORKS:
            dealing = Dealing(3)
            self.assertIs(refused(dealing.put, thing), NoBook, thing)
            dealing.put((0,))
            self.assertIs(refused(dealing.put, thing), NoBook, thing)
            self.assertEqual(dealing.put((0, 1, 2)), 1)
        for thing in ODD:
            good = repr(thing) in ("(0,)", "(1,)", "(2,)", "(0, 1)")
            self.assertIs(refused(Dealing(3).put, thing), None if good else NoBook, thing)

    def test_no_work_goes_ahead_of_too_many(self):
        dealing = self.full()
        for thing in NO_WORKS:
            self.assertIs(refused(dealing.put, thing), NoBook, thing)
        for able in ((0,), (0, 1, 2), (2,)):
            self.assertIs(refused(dealing.put, able), TooMany)
        dealing.take(4)
        self.assertEqual(dealing.put((0,)), 12)
        self.assertIs(refused(dealing.put, (0,)), TooMany)

    def test_hands_that_are_there_now(self):
        dealing = Dealing(2)
        self.assertIs(refused(dealing.put, (2,)), NoBook)
        dealing.come()
        self.assertEqual(dealing.put((2,)), 0)
        self.assertIs(refused(dealing.put, (3,)), NoBook)
        dealing.take(0)
        dealing.go()
        self.assertIs(refused(dealing.put, (2,)), NoBook)

    def test_numbers(self):
        dealing = Dealing(3)
        for thing in ODD:
            self.assertIs(refused(dealing.take, thing), NoWork, thing)
        for number in range(4):
            dealing.put((0, 1))
        dealing.take(2)
        for thing in ODD + [2, 4, 12, "1"]:
            if repr(thing) not in ("0", "1", "3"):
                self.assertIs(refused(dealing.take, thing), NoWork, thing)
        for number in (0, 1, 3):
            self.assertIsNone(dealing.take(number))
            self.assertIs(refused(dealing.take, number), NoWork)

    def test_hands_that_come_or_go(self):
        dealing = Dealing(6)
        self.assertIs(refused(dealing.come), TooMany)
        dealing.put((0, 5))
        self.assertIs(refused(dealing.go), NoHand)
        dealing.take(0)
        self.assertIsNone(dealing.go())
        self.assertEqual(dealing.come(), 5)
        one = Dealing(1)
        self.assertIs(refused(one.go), NoHand)
        one.put((0,))
        self.assertIs(refused(one.go), NoHand)

    def test_a_hand_that_has_no_work_but_is_able_stays(self):
        dealing = Dealing(2)
        dealing.put((0, 1))
        dealing.put((0, 1))
        dealing.take(max(dealing.works(), key=lambda number: dealing.deal()[number]))
        self.assertIn(0, dealing.loads())
        self.assertIs(refused(dealing.go), NoHand)

    def test_refusals_are_no_deeds(self):
        followed = Followed(self, 2)
        followed.put((1,))
        followed.put((0, 1))
        followed.take(0)
        followed.put((0,))
        self.assertEqual(followed.dealing.moved(), (1, 1))
        for deed, thing in ((followed.dealing.put, (2,)), (followed.dealing.take, 9)):
            self.assertIsNotNone(refused(deed, thing))
        self.assertIs(refused(followed.dealing.go), NoHand)
        self.assertEqual(followed.dealing.moved(), (1, 1))


if __name__ == "__main__":
    unittest.main()
