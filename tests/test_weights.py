import random
import unittest

from ablehands.errors import NoBook, NoWeights
from ablehands.weights import are_weights, need_weights
from tests.helper import BOOK, NO_WEIGHTS, ODD, draw_weights, drawn, no_books, refusal, spoiled


class Weights(unittest.TestCase):

    def test_drawn_ones(self):
        for chance, book in drawn(200, 61):
            self.assertIs(are_weights(book, draw_weights(chance, book)), True)

    def test_edges(self):
        for weight in range(-3, 105):
            for at in range(3):
                weights = (1,) * at + (weight,) + (1,) * (2 - at)
                self.assertIs(are_weights(BOOK, weights), 0 <= weight <= 99, weights)
        self.assertIs(are_weights((1, ()), ()), True)
        self.assertIs(are_weights((1, ()), []), False)
        self.assertIs(are_weights((1, ()), (1,)), False)

    def test_faults(self):
        for thing in NO_WEIGHTS:
            self.assertIs(are_weights(BOOK, thing), False, thing)
            self.assertIs(refusal(need_weights, BOOK, thing), NoWeights)
        self.assertIsNone(refusal(need_weights, BOOK, (0, 99, 1)))

    def test_spoiled_ones(self):
        chance = random.Random(62)
        answers = [0, 0]
        for count in range(2000):
            thing = spoiled(chance, (chance.randint(0, 99), 5, 0))
            # The text of a thing is of figures alone where it is a whole number from 0 on.
            answer = isinstance(thing, tuple) and len(thing) == 3
            answer = answer and all(repr(weight).isdigit() and weight <= 99 for weight in thing)
            answers[answer] += 1
            self.assertIs(are_weights(BOOK, thing), answer, thing)
        self.assertGreater(min(answers), 100)

    def test_no_book_goes_ahead(self):
        for book in no_books():
            for thing in ODD:
                self.assertIs(refusal(are_weights, book, thing), NoBook)
                self.assertIs(refusal(need_weights, book, thing), NoBook)


if __name__ == "__main__":
    unittest.main()
