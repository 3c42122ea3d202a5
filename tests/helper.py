"""What the tests share: drawn books and deals, things that are none, and whole small worlds."""

import copy
import itertools
import math
import random
import time

from ablehands.errors import DealError, NoBook

HUGE = 10 ** 60

# The signs that texts have, and how a number is written in them.
SIGNS = [chr(code) for code in range(32, 127) if chr(code) != "%"] + ["\t", "\n"]
NUMBER = "(?:0|[1-9][0-9]{0,5})"

# In place of a number, a tuple, or a part of one; none of these is a good number of hands above 3.
ODD = [
    None, True, False, -1, 0, 1, 2, 3, 7, 13, HUGE, -HUGE, "", "0", "01", "hands", [], [0], [0, 1], [[0]],
    (), (0,), (1,), (0, 1), (1, 0), (0, 0), (2,), (True,), (False, 1), (None,), ("0",), ((0,),), ((),),
    ((0,), (0,)), [(0,)], ([0],), {}, {0: 1}, {0: (0,)}, {"hands": 2}, (2, ()), (2, ((0,), (0, 1))), [2, ()],
    [[[[[[]]]]]], ((((((0,),),),),),),
]


def subsets(hands):
    """All works of a book with so many hands."""
    rows = [list(itertools.combinations(range(hands), size)) for size in range(1, hands + 1)]
    return [work for row in rows for work in row]


def small_books(most_hands, most_works):
    """All books of no more hands and works than these."""
    for hands in range(1, most_hands + 1):
        for many in range(most_works + 1):
            for works in itertools.product(subsets(hands), repeat=many):
                yield (hands, works)


def all_deals(book):
    return list(itertools.product(*book[1]))


def draw_book(chance, most_hands=6, most_works=12):
    hands = chance.randint(1, most_hands)
    works = []
    for count in range(chance.randint(0, most_works)):
        works.append(tuple(sorted(chance.sample(range(hands), chance.randint(1, hands)))))
    return (hands, tuple(works))


def draw_deal(chance, book):
    return tuple([chance.choice(able) for able in book[1]])


def drawn(many, seed):
    """Rows (chance, book): some without works, some as great as they may be, the others drawn."""
    chance = random.Random(seed)
    for hands in range(1, 7):
        yield chance, (hands, ())
        yield chance, (hands, (tuple(range(hands)),) * 12)
    for count in range(many):
        yield chance, draw_book(chance)


def spoiled(chance, thing):
    """The thing with one place in it changed, which may leave it good."""
    if not isinstance(thing, (tuple, list)) or chance.random() < 0.2:
        return copy.deepcopy(chance.choice(ODD))
    parts = list(thing)
    deed = chance.randint(0, 6)
    if deed == 0:
        return parts
    if deed == 1:
        parts.insert(chance.randint(0, len(parts)), copy.deepcopy(chance.choice(ODD)))
    elif deed == 2 and parts:
        parts.pop(chance.randrange(len(parts)))
    elif deed == 3:
        chance.shuffle(parts)
    elif parts:
        at = chance.randrange(len(parts))
        parts[at] = spoiled(chance, parts[at])
    return tuple(parts)


def no_books():
    """Things that are no book, each by one fault."""
    return [
        None, True, 0, 7, HUGE, "", "hands 2", (), (2,), (2, (), ()), [2, ()], {2: ()}, {}, [],
        (0, ()), (7, ()), (-1, ()), (HUGE, ()), (True, ()), (False, ()), (None, ()), ("2", ()), ((2,), ()),
        (2, []), (2, None), (2, {}), (2, "01"), (2, 0), (2, [(0,)]), (2, {0: (0,)}),
        (2, ((),)), (2, ([0],)), (2, (0,)), (2, (None,)), (2, ("0",)), (2, ({0: 1},)), (2, (True,)),
        (2, ((1, 0),)), (2, ((0, 0),)), (2, ((1, 1),)), (2, ((2,),)), (2, ((-1,),)), (2, ((0, 1, 2),)),
        (2, ((-1, 0),)), (2, ((HUGE,),)), (2, ((-HUGE, 0),)), (3, ((0, 2, 1),)), (3, ((0, 1, 1, 2),)),
        (2, ((True,),)), (2, ((False,),)), (2, ((0, True),)), (2, ((False, 1),)), (2, ((None,),)),
        (2, (("0",),)), (2, ((0, "1"),)), (2, ((0, None),)), (2, (((0,),),)), (2, (([],),)), (2, (({},),)),
        (2, ((0,),) * 13), (6, ((0, 1, 2, 3, 4, 5),) * 13), (2, ((0,), (0, 1), ())), (2, ((0,), (1, 0), (1,))),
        (6, ((6,),)), (1, ((1,),)), (1, ((0, 1),)), (2, (2, ())), ((2, ()), ((0,),)),
    ]


# A book and things that are no deal of it, each by one fault.
BOOK = (3, ((0, 1), (1, 2), (0,)))
NO_DEALS = [
    None, True, 0, "", "010", {}, {0: 0}, [], (), (0,), (0, 1), (0, 1, 0, 0), [0, 1, 0], (0, 1, [0]),
    (2, 1, 0), (0, 0, 0), (0, 1, 1), (0, 1, 3), (0, 1, -1), (-1, 1, 0), (0, HUGE, 0), (0, -HUGE, 0),
    (False, 1, 0), (True, 1, 0), (0, True, 0), (0, 1, False), (0, 1, None), (None, 1, 0), (0, "1", 0),
    (0, (1,), 0), ((0, 1), (1, 2), (0,)), (0, {}, 0), ((0, 1, 0),), BOOK,
]

# Things that are no weights of BOOK, each by one fault.
NO_WEIGHTS = [
    None, True, 0, 3, "", "111", {}, {0: 1}, [], (), (1,), (1, 1), (1, 1, 1, 1), [1, 1, 1], (1, 1, [1]), (1, 1, -1),
    (-1, 1, 1), (1, 100, 1), (1, HUGE, 1), (1, 1, -HUGE), (True, 1, 1), (1, False, 1), (1, 1, None), (1, "1", 1),
    (1, (1,), 1), (1, (1, 1), 1), ((1, 1, 1),), (1, {}, 1), (1, 1, ()),
]

# Things that are no rooms of BOOK, each by one fault.
NO_ROOMS = [
    None, True, 0, 3, "", "111", {}, {0: 1}, [], (), (1,), (1, 1), (1, 1, 1, 1), [1, 1, 1], (1, 1, [1]), (1, 1, -1),
    (-1, 1, 1), (1, 13, 1), (1, HUGE, 1), (1, 1, -HUGE), (True, 1, 1), (1, False, 1), (1, 1, None), (1, "1", 1),
    (1, (1,), 1), ((1, 1, 1),), (1, {}, 1), (1, 1, ()),
]

# Things that are no costs of BOOK, each by one fault.
NO_COSTS = [
    None, True, 0, 3, "", {}, {0: (1, 1, 1)}, [], (), (1, 1, 1), ((1, 1, 1),), ((1, 1, 1),) * 2, ((1, 1, 1),) * 4,
    [(1, 1, 1)] * 3, ([1, 1, 1],) * 3, ((1, 1, 1), (1, 1, 1), [1, 1, 1]), ((1, 1, 1), None, (1, 1, 1)),
    ((1, 1, 1), (1, 1), (1, 1, 1)), ((1, 1, 1), (1, 1, 1, 1), (1, 1, 1)), ((1, 1, 1), (), (1, 1, 1)),
    ((2, 1, 1), (1, 1, 1), (1, 1, 1)), ((1, 1, 1), (1, 2, 1), (1, 1, 1)), ((1, 1, 1), (1, 1, 1), (9, 9, 8)),
    ((-1, 1, 1), (1, 1, 1), (1, 1, 1)), ((1, 1, 1), (1, 1, 1000), (1, 1, 1)), ((1, 1, HUGE), (1, 1, 1), (1, 1, 1)),
    ((1, 1, 1), (-HUGE, 1, 1), (1, 1, 1)), ((True, 1, 1), (1, 1, 1), (1, 1, 1)), ((1, 1, 1), (0, True, 1), (1, 1, 1)),
    ((1, 1, 1), (1, 1, 1), (False, 1, 1)), ((1, 1, 1), (1, None, 1), (1, 1, 1)), ((1, 1, 1), ("1", 1, 1), (1, 1, 1)),
    ((1, 1, 1), ((1,), 1, 1), (1, 1, 1)), ((1, 1, 1), {1: 1, 2: 1, 3: 1}, (1, 1, 1)), ((1, 1, 1), "111", (1, 1, 1)),
]


def even_sums(counts):
    """The sums of the first 0, 1, 2, .. of the numbers, the greatest first."""
    row = sorted(counts)[::-1]
    return [sum(row[:many]) for many in range(len(row) + 1)]


def counted(book, deal):
    """The loads, by adding up one work after the other."""
    many = [0] * book[0]
    for hand in deal:
        many[hand] += 1
    return tuple(many)


def shorter(chance, work):
    return tuple(sorted(chance.sample(work, min(len(work), chance.choice((1, 1, 2, 3))))))


def draw_weights(chance, book):
    """Weights from 0 to 99: any, few different ones, some of them 0, all 0, all alike."""
    several = ((0,), (1,), (99,), (0, 1), (0, 99), (1, 2, 3), (0, 0, 7, 98), range(100), range(100), range(100))
    some = chance.choice(several)
    return tuple([chance.choice(some) for work in book[1]])


def other_numbers(chance, row):
    """The tuple of whole numbers with one of them changed, left out or put in."""
    at = chance.randrange(len(row) + 1)
    number = chance.choice((-1, 0, 1, 2, HUGE, -HUGE) + tuple([one + more for one in row for more in (-1, 0, 1)]))
    return row[:at] + chance.choice(((), (number,), (number,), (number,))) + row[at + chance.randint(0, 1):]


def few_deals(many, seed, most=400):
    """Books drawn of all sizes, all with no more deals than these."""
    chance = random.Random(seed)
    books = []
    while len(books) < many:
        book = draw_book(chance)
        if chance.random() < 0.7:
            # Short works leave a book of many works with few deals.
            book = (book[0], tuple([shorter(chance, work) for work in book[1]]))
        if chance.random() < 0.3 and book[1]:
            book = (book[0], tuple([chance.choice(book[1][:2]) for work in book[1]]))
        deals = math.prod([len(work) for work in book[1]])
        # Books with hardly a choice come up often enough.
        if deals <= most and (deals > 9 or chance.random() < 0.2):
            books.append(book)
    return books


def evenest_ones(book):
    """All evenest deals, by a search over all deals."""
    rows = {deal: even_sums(counted(book, deal)) for deal in all_deals(book)}
    least = [min(column) for column in zip(*rows.values())]
    return [deal for deal in rows if rows[deal] == least]


def all_ways(book, deal):
    """All ways of the deal, by trying each next step."""
    def behind(some, passed):
        for work, (hand, able) in enumerate(zip(deal, book[1])):
            for other in able:
                if hand == passed[-1] and other not in passed:
                    yield some + [(work, hand, other)]
                    yield from behind(some + [(work, hand, other)], passed + [other])
    return [some for first in range(book[0]) for some in behind([], [first])]


def refusal(tell, *handed):
    """The class with which the call refuses, None where it answers; what is handed in must stay as it was."""
    before = repr(handed)
    try:
        tell(*handed)
        error = None
    except DealError as e:
        error = e.__class__
    assert repr(handed) == before, (tell, before)
    return error


def check_of_a_book(tell):
    """The call, of a book alone, refuses what is none with NoBook, and no book."""
    for book in no_books():
        assert refusal(tell, book) is NoBook, (tell, book)
    for book in list(small_books(2, 2)) + [FULL]:
        assert refusal(tell, book) is None, (tell, book)
    for thing in ODD:
        assert refusal(tell, thing) in (None, NoBook), (tell, thing)


FULL = (6, (tuple(range(6)),) * 12)


def in_a_moment(tell, *handed):
    """What the call answers; it must do so within a second."""
    begun = time.process_time()
    answer = tell(*handed)
    assert time.process_time() - begun < 1, tell
    return answer
