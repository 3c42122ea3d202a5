"""A deal kept even while works and hands come and go."""

from ablehands.books import MOST_HANDS, MOST_WORKS, are_hands, is_whole, is_work
from ablehands.errors import NoBook, NoHand, NoWork, TooMany
from ablehands.loads import counted
from ablehands.reaching import handing, reached, steps_to_least, way_to
from ablehands.turning import levels_or_way


def steps_of_take(book, deal, work):
    """Steps, perhaps none, behind which an evenest deal is one without this work, which is not among them."""
    many = counted(book[0], deal)
    rows = handing(book, deal)
    last = deal[work]
    best = []
    for hand in range(book[0]):
        found = reached(rows, hand)
        # Only a load that was greater is by two above the one that the work leaves behind.
        if last in found and many[hand] > many[last]:
            some = way_to(found, last)
            if len(best) == 0 or len(some) < len(best):
                best = some
    return best


class Dealing:
    """Works that stand, and an evenest deal of them."""

    def __init__(self, hands):
        if not are_hands(hands):
            raise NoBook("this is no number of hands")
        self.many_hands = hands
        self.able_of = {}
        self.hand_of = {}
        self.next_number = 0
        self.moved_last = 0
        self.moved_in_all = 0

    def book_now(self):
        """The works that stand, as a book: their places there follow their numbers."""
        return (self.many_hands, tuple(self.able_of.values()))

    def deal_now(self):
        """The deal of that book."""
        return tuple(self.hand_of.values())

    def count_moved(self, many):
        """Keep how many works the deed moved."""
        self.moved_last = many
        self.moved_in_all += many

    def put(self, able):
        """Put a work that these hands are able to do; its number."""
        if not is_work(self.many_hands, able):
            raise NoBook("this is no work of these hands")
        if len(self.able_of) == MOST_WORKS:
            raise TooMany("twelve works stand already")
        steps = steps_to_least(self.book_now(), self.deal_now(), able, self.loads())
        number = self.next_number
        self.able_of[number] = able
        numbers = list(self.able_of)
        for work, giver, taker in steps:
            self.hand_of[numbers[work]] = taker
        self.next_number += 1
        self.count_moved(len(steps) - 1)
        return number

    def take(self, number):
        """Take the work with this number out."""
        if not is_whole(number) or number not in self.able_of:
            raise NoWork("no work that stands has this number")
        numbers = list(self.able_of)
        steps = steps_of_take(self.book_now(), self.deal_now(), numbers.index(number))
        for work, giver, taker in steps:
            self.hand_of[numbers[work]] = taker
        self.able_of.pop(number)
        self.hand_of.pop(number)
        self.count_moved(len(steps))

    def come(self):
        """One hand more; its number."""
        if self.many_hands == MOST_HANDS:
            raise TooMany("there are six hands already")
        self.many_hands += 1
        self.count_moved(0)
        return self.many_hands - 1

    def go(self):
        """The last hand goes."""
        last = self.many_hands - 1
        if last == 0 or any([last in able for able in self.able_of.values()]):
            raise NoHand("the last hand can't go")
        self.many_hands -= 1
        self.count_moved(0)

    def works(self):
        """A dict from the numbers of the works that stand to the hands able to do them."""
        return {number: tuple([hand for hand in self.able_of[number]]) for number in self.able_of}

    def deal(self):
        """A dict from the numbers of the works that stand to the hands that have them."""
        return dict(self.hand_of)

    def loads(self):
        """For each hand how many works it has."""
        return counted(self.many_hands, self.deal_now())

    def levels(self):
        """Levels of the deal."""
        return levels_or_way(self.book_now(), self.deal_now())[1]

    def moved(self):
        """How many works were moved by the last deed, and in all."""
        return (self.moved_last, self.moved_in_all)
