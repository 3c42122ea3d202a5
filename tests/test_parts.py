import copy
import random
import unittest
from fractions import Fraction

from ablehands.blocks import blocks
from ablehands.errors import NoBook, NoWeights
from ablehands.parts import are_level, are_shares, in_parts
from tests.helper import (
    BOOK, FULL, HUGE, NO_WEIGHTS, ODD, draw_weights, drawn, in_a_moment, no_books, refusal, small_books, spoiled,
)

WEIGHTS = (4, 3, 1)
LEVEL = [((5, 3), (7, 3), (0, 1)), ((0, 1), (1, 3), (8, 3)), ((1, 1), (0, 1), (0, 1))]
NOUGHT = (0, 1)


def as_fraction(thing):
    """The value of anybody's fraction, None of what is none. A text of figures alone shows a whole number."""
    if isinstance(thing, tuple) and len(thing) == 2 and all(repr(part).isdigit() for part in thing) and thing[1]:
        return Fraction(*thing)
    return None


def as_shares(book, weights, shares):
    """The values of shares, None of what are none: as the document says it."""
    if len(shares) != len(book[1]) or not all(isinstance(row, tuple) and len(row) == book[0] for row in shares):
        return None
    rows = [[as_fraction(part) for part in row] for row in shares]
    for row, able, weight in zip(rows, book[1], weights):
        if None in row or sum(row) != weight or any(row[hand] for hand in range(book[0]) if hand not in able):
            return None
    return rows


def level_loads(book, rows):
    """The loads of the values of shares where these are level, else None."""
    many = [sum([row[hand] for row in rows], Fraction(0)) for hand in range(book[0])]
    for row, able in zip(rows, book[1]):
        if any(row[hand] and many[hand] > min(many[other] for other in able) for hand in able):
            return None
    return many


def other_kinds(chance, shares):
    """The shares with one thing in them of another kind: a list, a truth, a text, other terms."""
    rows = [list(row) for row in shares]
    work = chance.randrange(len(rows))
    hand = chance.randrange(len(rows[work]))
    a, b = rows[work][hand]
    # Other terms leave them good.
    several = [[a, b], (bool(a), b), (a, bool(b)), (str(a), b), (a, b, b), (a,), a, None, f"{a}/{b}", {a: b}, (-a, -b),
               (a * 7, b * 7), (a * HUGE, b * HUGE), (a, 0), ((a, b), b), (a + 1, b), (a, b + 1), (-a, b)]
    rows[work][hand] = chance.choice(several)
    told = [tuple(row) for row in rows]
    if chance.random() < 0.1:
        told[work] = list(told[work])
    return told


def other_rows(chance, shares):
    """The shares with a row left out, doubled or exchanged, or hands exchanged in one."""
    rows = list(shares)
    one, other = chance.randrange(len(rows)), chance.randrange(len(rows))
    deed = chance.randint(0, 4)
    if deed == 0:
        rows.pop(one)
    elif deed == 1:
        rows.insert(one, rows[other])
    elif deed == 2:
        rows[one], rows[other] = rows[other], rows[one]
    elif deed == 3:
        rows[one] = tuple(chance.sample(rows[one], len(rows[one])))
    else:
        rows[one] = rows[one][:-1] if chance.random() < 0.5 else rows[one] + (NOUGHT,)
    return rows


def handed_over(chance, book, shares):
    """The shares with a part of one work handed to another able hand: shares still, level or not."""
    rows = [list(row) for row in shares]
    work = chance.randrange(len(rows))
    one, other = chance.choice(book[1][work]), chance.choice(book[1][work])
    part = Fraction(*rows[work][one]) * Fraction(chance.randint(0, 3), 3)
    rows[work][one] = (Fraction(*rows[work][one]) - part).as_integer_ratio()
    rows[work][other] = (Fraction(*rows[work][other]) + part).as_integer_ratio()
    return [tuple(row) for row in rows]


class InParts(unittest.TestCase):

    def check(self, book, weights):
        told = in_parts(book, weights)
        self.assertIsInstance(told, tuple)
        loads, shares = told
        self.assertIsInstance(shares, list)
        rows = as_shares(book, weights, shares)
        self.assertIsNotNone(rows, (book, weights))
        self.assertEqual([value for row in rows for value in row if value < 0], [])
        for part in [part for row in shares for part in row] + list(loads):
            self.assertEqual(repr(part), repr(Fraction(*part).as_integer_ratio()))
        values = level_loads(book, rows)
        self.assertIsNotNone(values, (book, weights, shares))
        self.assertEqual(repr(loads), repr(tuple(value.as_integer_ratio() for value in values)))
        self.assertIs(are_shares(book, weights, shares), True)
        self.assertIs(are_level(book, weights, shares), True)
        for some, load in blocks(book, weights):
            self.assertEqual({loads[hand] for hand in some}, {load})

    def test_every_small_book(self):
        chance = random.Random(81)
        for book in small_books(3, 3):
            self.check(book, draw_weights(chance, book))

    def test_drawn_ones(self):
        for chance, book in drawn(300, 82):
            self.check(book, draw_weights(chance, book))
            self.check(book, (1,) * len(book[1]))

    def test_all_weights_nought(self):
        for chance, book in drawn(20, 83):
            loads, shares = in_parts(book, (0,) * len(book[1]))
            self.assertEqual(loads, (NOUGHT,) * book[0])
            self.assertEqual(shares, [(NOUGHT,) * book[0]] * len(book[1]))

    def test_written_ones(self):
        self.assertEqual(in_parts(BOOK, WEIGHTS), (((8, 3),) * 3, LEVEL))
        self.assertEqual(in_parts(BOOK, (4, 2, 1))[0], ((5, 2), (5, 2), (2, 1)))
        self.assertEqual(in_parts(BOOK, (1, 1, 1)), (((1, 1),) * 3, [
            (NOUGHT, (1, 1), NOUGHT), (NOUGHT, NOUGHT, (1, 1)), ((1, 1), NOUGHT, NOUGHT)]))
        self.assertEqual(in_parts((2, ((0, 1),)), (1,)), (((1, 2), (1, 2)), [((1, 2), (1, 2))]))
        self.assertEqual(in_parts((1, ()), ()), ((NOUGHT,), []))
        self.assertEqual(in_parts((6, (tuple(range(6)),)), (1,)), (((1, 6),) * 6, [((1, 6),) * 6]))

    def test_a_full_hand_hands_on(self):
        # Hands 0 and 1 are full when the last work comes, so parts of others must be handed on to hand 2.
        book = (3, ((0, 1), (1, 2), (0, 1)))
        for weights in ((6, 6, 6), (6, 1, 6), (1, 99, 1), (99, 98, 97)):
            self.check(book, weights)
        chain = (6, ((0, 1), (1, 2), (2, 3), (3, 4), (4, 5), (0,)))
        for weights in ((1, 1, 1, 1, 1, 1), (0, 0, 0, 0, 0, 9), (5, 5, 5, 5, 5, 1), (9, 8, 7, 6, 5, 4)):
            self.check(chain, weights)
            self.check((6, chain[1][::-1]), weights[::-1])

    def test_each_list_is_a_new_one(self):
        loads, shares = in_parts(BOOK, WEIGHTS)
        kept = copy.deepcopy(shares)
        shares[0] = None
        shares.append(None)
        self.assertEqual(in_parts(BOOK, WEIGHTS), (loads, kept))

    def test_names(self):
        self.assertEqual(in_parts(weights=(1, 1, 1), book=BOOK)[0], ((1, 1),) * 3)
        self.assertIs(are_shares(shares=LEVEL, weights=WEIGHTS, book=BOOK), True)
        self.assertIs(are_level(shares=LEVEL, weights=WEIGHTS, book=BOOK), True)

    def test_twelve_works_for_six_hands(self):
        for weights in ((99,) * 12, (1,) * 12, tuple(range(88, 100)), (0, 99) * 6, (97,) + (0,) * 11):
            loads, shares = in_a_moment(in_parts, FULL, weights)
            self.assertEqual(loads, (Fraction(sum(weights), 6).as_integer_ratio(),) * 6)
            self.assertIs(in_a_moment(are_shares, FULL, weights, shares), True)
            self.assertIs(in_a_moment(are_level, FULL, weights, shares), True)
        # Parts of sixty figures each, no two with the same second number.
        many = [[(1, HUGE - 7 * hand - 60 * work - 1) for hand in range(1, 6)] for work in range(12)]
        rows = [[1 - sum(Fraction(*part) for part in row)] + row for row in many]
        shares = [tuple([row[0].as_integer_ratio()] + row[1:]) for row in rows]
        self.assertIs(in_a_moment(are_shares, FULL, (1,) * 12, shares), True)
        self.assertIs(in_a_moment(are_level, FULL, (1,) * 12, shares), False)


class Shares(unittest.TestCase):

    def check(self, book, weights, shares):
        rows = as_shares(book, weights, shares)
        level = rows is not None and level_loads(book, rows) is not None
        self.assertIs(are_shares(book, weights, shares), rows is not None, (book, weights, shares))
        self.assertIs(are_level(book, weights, shares), level, (book, weights, shares))
        return (rows is not None) + level

    def test_written_ones(self):
        self.assertEqual(self.check(BOOK, WEIGHTS, LEVEL), 2)
        terms = [((10, 6), (7, 3), (0, 9)), ((0, 8), (5, 15), (800, 300)), ((7, 7), (0, HUGE), (0, 1))]
        self.assertEqual(self.check(BOOK, WEIGHTS, terms), 2)
        # Hand 1 has less than hand 2, though it is able to take of its work.
        self.assertEqual(self.check(BOOK, WEIGHTS, [((3, 2), (5, 2), (0, 1)), ((0, 1), (0, 1), (3, 1)), LEVEL[2]]), 1)
        self.assertEqual(self.check(BOOK, WEIGHTS, [LEVEL[0], ((0, 1), (1, 3), (7, 3)), LEVEL[2]]), 0)
        # A work without weight is dealt to nobody, so its able hands' loads may differ.
        book = (2, ((0, 1), (0,)))
        self.assertEqual(self.check(book, (0, 5), [((0, 1), (0, 1)), ((5, 1), (0, 1))]), 2)
        self.assertEqual(self.check(book, (1, 5), [((0, 1), (1, 1)), ((5, 1), (0, 1))]), 2)
        self.assertEqual(self.check(book, (1, 5), [((1, 99), (98, 99)), ((5, 1), (0, 1))]), 1)

    def test_a_share_of_an_unable_hand(self):
        rows = [((0, 1), (0, 1), (4, 1)), LEVEL[1], LEVEL[2]]
        self.assertEqual(self.check(BOOK, WEIGHTS, rows), 0)
        rows = [LEVEL[0], LEVEL[1], ((0, 1), (1, 2), (1, 2))]
        self.assertEqual(self.check(BOOK, WEIGHTS, rows), 0)

    def test_below_nought(self):
        rows = [((5, 1), (-1, 1), (0, 1)), LEVEL[1], LEVEL[2]]
        self.assertEqual(self.check(BOOK, WEIGHTS, rows), 0)
        rows = [((-5, -1), (1, -1), (0, 1)), LEVEL[1], LEVEL[2]]
        self.assertEqual(self.check(BOOK, WEIGHTS, rows), 0)

    def test_without_works_and_without_weights(self):
        for hands in range(1, 7):
            self.assertEqual(self.check((hands, ()), (), []), 2)
            self.assertEqual(self.check((hands, ()), (), [()]), 0)
            self.assertEqual(self.check((hands, ((0,),)), (0,), [(NOUGHT,) * hands]), 2)
            self.assertEqual(self.check((hands, ((0,),)), (0,), [((0, 5),) * hands]), 2)
            self.assertEqual(self.check((hands, ((0,),)), (0,), [(NOUGHT,) * (hands + 1)]), 0)
            self.assertEqual(self.check((hands, ((0,),)), (0,), []), 0)

    def test_one_thing_changed(self):
        answers = [0, 0, 0]
        for chance, book in drawn(400, 84):
            weights = draw_weights(chance, book)
            shares = in_parts(book, weights)[1]
            for count in range(10 if shares else 0):
                shares = handed_over(chance, book, shares) if chance.random() < 0.2 else shares
                answers[self.check(book, weights, shares)] += 1
                answers[self.check(book, weights, other_kinds(chance, shares))] += 1
                answers[self.check(book, weights, other_rows(chance, shares))] += 1
                answers[self.check(book, weights, self.spoiled_list(chance, shares))] += 1
        self.assertGreater(min(answers), 500)

    def spoiled_list(self, chance, shares):
        thing = spoiled(chance, shares)
        return list(thing) if isinstance(thing, (list, tuple)) else [thing]

    def test_lists_of_anything(self):
        for thing in ODD:
            for shares in ([thing], [thing] * 3, LEVEL[:2] + [thing], [thing] + LEVEL[1:], LEVEL + [thing]):
                self.assertEqual(self.check(BOOK, WEIGHTS, shares), 0)
            for hand in range(3):
                row = list(LEVEL[0])
                row[hand] = thing
                # Nought stands there already at hand 2.
                answer = 2 if hand == 2 and repr(thing) == "(0, 1)" else 0
                self.assertEqual(self.check(BOOK, WEIGHTS, [tuple(row)] + LEVEL[1:]), answer)

    def test_other_things_than_lists(self):
        for thing in [None, 0, "", {}, (), tuple(LEVEL), {0: LEVEL[0], 1: LEVEL[1], 2: LEVEL[2]}]:
            self.assertIs(are_shares(BOOK, WEIGHTS, thing), False, thing)
            self.assertIs(are_level(BOOK, WEIGHTS, thing), False, thing)

    def test_nothing_is_changed(self):
        for shares in (LEVEL, [], [[]], LEVEL[:2], [list(row) for row in LEVEL]):
            for tell in (are_shares, are_level):
                self.assertIsNone(refusal(tell, BOOK, WEIGHTS, shares))


class Refusals(unittest.TestCase):

    def test_no_book_goes_ahead_of_all(self):
        for book in no_books():
            for weights in [(), WEIGHTS, None, [1], (-1,)]:
                self.assertIs(refusal(in_parts, book, weights), NoBook, (book, weights))
                for shares in (LEVEL, [], None):
                    self.assertIs(refusal(are_shares, book, weights, shares), NoBook, (book, weights))
                    self.assertIs(refusal(are_level, book, weights, shares), NoBook, (book, weights))

    def test_then_no_weights(self):
        for weights in NO_WEIGHTS:
            self.assertIs(refusal(in_parts, BOOK, weights), NoWeights, weights)
            for shares in (LEVEL, [], None, [[]]):
                self.assertIs(refusal(are_shares, BOOK, weights, shares), NoWeights, weights)
                self.assertIs(refusal(are_level, BOOK, weights, shares), NoWeights, weights)

    def test_nothing_else(self):
        for weights in ((0, 0, 0), (99, 99, 99), (0, 99, 1)):
            self.assertIsNone(refusal(in_parts, BOOK, weights))


if __name__ == "__main__":
    unittest.main()
