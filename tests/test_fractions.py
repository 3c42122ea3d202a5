import random
import unittest
from fractions import Fraction

from ablehands.fractions import is_fraction, is_less, lowest, plus, total
from tests.helper import HUGE, ODD, in_a_moment

MOST = 10 ** 60 - 1


def draw(chance):
    """A whole number from 0 on of few or of up to sixty figures."""
    return chance.randrange(10 ** chance.choice((1, 1, 2, 3, 9, 20, 30, 60)))


def pair(fraction):
    return (fraction.numerator, fraction.denominator)


class Fractions(unittest.TestCase):

    def test_lowest_of_all_small_ones(self):
        for a in range(-40, 41):
            for b in range(1, 41):
                self.assertEqual(repr(lowest(a, b)), repr(pair(Fraction(a, b))))

    def test_lowest_of_few_and_many_figures(self):
        chance = random.Random(51)
        for count in range(2000):
            a, b, times = draw(chance), draw(chance) + 1, draw(chance) + 1
            a = -a if chance.random() < 0.5 else a
            self.assertEqual(repr(lowest(a, b)), repr(pair(Fraction(a, b))))
            self.assertEqual(repr(lowest(a * times, b * times)), repr(pair(Fraction(a, b))))

    def test_edges(self):
        for b in (1, 2, 60, MOST, HUGE):
            self.assertEqual(lowest(0, b), (0, 1))
            self.assertEqual(lowest(b, b), (1, 1))
            self.assertEqual(lowest(-b, b), (-1, 1))
            self.assertEqual(lowest(b * 7, b), (7, 1))
        self.assertEqual(lowest(MOST, MOST - 1), (MOST, MOST - 1))
        self.assertEqual(lowest(-6, 4), (-3, 2))

    def test_plus_and_less_of_all_small_ones(self):
        some = sorted({Fraction(a, b) for a in range(9) for b in range(1, 7)})
        for one in some:
            for other in some:
                self.check(one, other)

    def test_plus_and_less_of_few_and_many_figures(self):
        chance = random.Random(52)
        for count in range(2000):
            one = Fraction(draw(chance), draw(chance) + 1)
            other = chance.choice((one, one + Fraction(1, MOST), Fraction(draw(chance), draw(chance) + 1)))
            self.check(one, other)
            self.check(other, one)

    def check(self, one, other):
        handed = (pair(one), pair(other))
        self.assertEqual(repr(plus(*handed)), repr(pair(one + other)))
        self.assertIs(is_less(*handed), one < other)

    def test_a_hair_between(self):
        one, other = (MOST - 1, MOST), (MOST - 2, MOST - 1)
        self.assertIs(is_less(other, one), True)
        self.assertIs(is_less(one, other), False)
        self.assertIs(is_less(one, one), False)
        self.assertEqual(plus((1, MOST), (MOST - 1, MOST)), (1, 1))

    def test_not_in_lowest_terms(self):
        self.assertEqual(plus((2, 4), (3, 6)), (1, 1))
        self.assertEqual(plus((0, 5), (0, 7)), (0, 1))
        self.assertIs(is_less((2, 4), (1, 2)), False)
        self.assertIs(is_less((2, 4), (4, 6)), True)

    def test_total(self):
        chance = random.Random(53)
        self.assertEqual(total([]), (0, 1))
        for count in range(200):
            some = [Fraction(draw(chance), draw(chance) + 1) for at in range(chance.randint(0, 6))]
            self.assertEqual(total([pair(one) for one in some]), pair(sum(some, Fraction(0))))

    def test_is_fraction(self):
        for thing in [(0, 1), (0, 7), (2, 4), (HUGE, 1), (1, HUGE)]:
            self.assertIs(is_fraction(thing), True)
        for thing in [(1, 0), (0, 0), (-1, 1), (1, -1), (True, 1), (1, True), (1,), (1, 1, 1), [1, 1], (1, None),
                      ("1", 1), 1, None, "1/1", {1: 1}, ((1, 1), (1, 1))]:
            self.assertIs(is_fraction(thing), False, thing)
        for thing in ODD:
            self.assertIs(is_fraction(thing), repr(thing) == "(0, 1)", thing)

    def test_names_and_moments(self):
        self.assertEqual(lowest(b=6, a=4), (2, 3))
        self.assertEqual(plus(other=(1, 2), one=(1, 3)), (5, 6))
        self.assertIs(is_less(other=(1, 2), one=(1, 3)), True)
        # Neighbours of Fibonacci's row keep the search for a common divisor longest.
        a, b = 1, 1
        while b < MOST:
            a, b = b, a + b
        self.assertEqual(in_a_moment(lowest, a, b), (a, b))
        self.assertEqual(in_a_moment(plus, (a, b), (b, a)), pair(Fraction(a, b) + Fraction(b, a)))


if __name__ == "__main__":
    unittest.main()
