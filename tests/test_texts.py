import random
import re
import unittest

from ablehands.errors import NoBook, NoText
from ablehands.texts import read_book, show_book, show_fraction
from tests.helper import (
    BOOK, FULL, HUGE, NUMBER, SIGNS, check_of_a_book, drawn, in_a_moment, refusal, small_books,
)

TEXT = re.compile(f"hands {NUMBER}(?:; {NUMBER}(?: {NUMBER})*)*")


def written(text):
    """The book that the text writes, or the refusal that is due: as the document says it."""
    if not TEXT.fullmatch(text):
        return NoText
    hands, *works = [tuple(map(int, re.findall("[0-9]+", row))) for row in text.split(";")]
    rising = all(list(work) == sorted(set(work)) and work[-1] < hands[0] for work in works)
    if not 1 <= hands[0] <= 6 or len(works) > 12 or not rising:
        return NoBook
    return (hands[0], tuple(works))


class Books(unittest.TestCase):

    def check(self, text):
        """What is read, against what the text writes; its kind as 0, 1, 2 for NoText, NoBook, a book."""
        told = written(text)
        if told in (NoText, NoBook):
            self.assertIs(refusal(read_book, text), told, text)
            return (NoText, NoBook).index(told)
        self.assertEqual(repr(read_book(text)), repr(told), text)
        return 2

    def test_written_ones(self):
        self.assertEqual(show_book(BOOK), "hands 3; 0 1; 1 2; 0")
        self.assertEqual(show_book((1, ())), "hands 1")
        self.assertEqual(show_book((6, ((0, 1, 2, 3, 4, 5), (5,)))), "hands 6; 0 1 2 3 4 5; 5")
        self.assertEqual(read_book("hands 3; 0 1; 1 2; 0"), BOOK)
        self.assertEqual(read_book("hands 1"), (1, ()))

    def test_read_back(self):
        for book in list(small_books(3, 2)) + [book for chance, book in drawn(300, 161)]:
            text = show_book(book)
            self.assertTrue(TEXT.fullmatch(text))
            self.assertEqual(repr(read_book(text)), repr(book))
            self.assertEqual(self.check(text), 2)

    def test_one_sign_changed(self):
        kinds = [0, 0, 0]
        for text in ("hands 1", "hands 3; 0 1; 1 2; 0", "hands 6; 0 5; 3", "hands 2; 1", "hands 10; 0", "hands 0"):
            for at in range(len(text) + 1):
                kinds[self.check(text[:at] + text[at + 1:])] += 1
                for sign in SIGNS:
                    kinds[self.check(text[:at] + sign + text[at:])] += 1
                    kinds[self.check(text[:at] + sign + text[at + 1:])] += 1
        self.assertGreater(min(kinds), 50)

    def test_drawn_changes(self):
        kinds = [0, 0, 0]
        for chance, book in drawn(1500, 162):
            text = show_book(book)
            for count in range(chance.randint(1, 2)):
                at = chance.randrange(len(text) + 1)
                put = chance.choice(("", "0", " ", ";", "; ", "1", "00", chance.choice(SIGNS)))
                text = text[:at] + put + text[at + chance.randint(0, 1):]
            kinds[self.check(text)] += 1
        self.assertGreater(min(kinds), 30)

    def test_no_texts(self):
        for text in ("", " ", "hands", "hands ", "hands  2", " hands 2", "hands 2 ", "hands 2;", "hands 2; ",
                     "hands 2;0", "hands 2 ; 0", "hands 2;  0", "hands 2; 0 ", "hands 2; 0  1", "hands 2; 0; ",
                     "hands 2; ; 0",
                     "Hands 2", "hand 2", "hands two", "hands -1", "hands +2", "hands 02", "hands 2; 00", "hands 2; 01",
                     "hands 2; 0,1", "hands 2, 0", "hands 2\n", "\nhands 2", "hands\t2", "hands 2;\t0", "hands 2; 0\n",
                     "hands 2; 0\t1", "hands 2 0", "hands 2; 0; hands 2", "2; 0", "hands 2; -1", "hands 2; 1_0",
                     "hands 1000000", "hands 2; 1000000", "hands 2; 0000000", "hands 2.0", "hands 0x2", "hands 2\n; 0"):
            self.assertEqual(self.check(text), 0, text)

    def test_no_books(self):
        for text in ("hands 0", "hands 7", "hands 999999", "hands 2; 2", "hands 2; 0 2", "hands 2; 1 0", "hands 2; 0 0",
                     "hands 2; 999999", "hands 2" + "; 0" * 13, "hands 0; 0", "hands 7; 0", "hands 3; 0 2 1"):
            self.assertEqual(self.check(text), 1, text)

    def test_no_text_goes_ahead_of_no_book(self):
        for text in ("hands 0; ", "hands 7;0", "hands 2; 5; ", "hands 2; 1 0 ", "hands 9; 01",
                     "hands 2" + "; 0" * 13 + ";"):
            self.assertEqual(self.check(text), 0, text)

    def test_long_ones(self):
        self.assertEqual(read_book("hands 6" + "; 0 1 2 3 4 5" * 12), FULL)
        for text, error in (("hands 2" + "; 0" * 20000, NoBook), ("hands 2; " + "0 " * 20000, NoText),
                            ("hands " + "1" * 50000, NoText), ("hands 2; " + "0 " * 20000 + "1", NoBook)):
            self.assertIs(in_a_moment(refusal, read_book, text), error)

    def test_other_things_than_texts(self):
        for thing in (None, 2, (), [], {}, BOOK):
            self.assertIs(refusal(read_book, thing), NoText, thing)

    def test_names_and_refusals(self):
        self.assertEqual(show_book(book=BOOK), "hands 3; 0 1; 1 2; 0")
        self.assertEqual(read_book(text="hands 3; 0 1; 1 2; 0"), BOOK)
        check_of_a_book(show_book)


class Fractions(unittest.TestCase):

    def test_written_ones(self):
        for fraction, text in (((0, 1), "0"), ((3, 1), "3"), ((3, 2), "3/2"), ((1, 60), "1/60"), ((10, 7), "10/7")):
            self.assertEqual(show_fraction(fraction), text)

    def test_by_the_numbers_that_it_has(self):
        for fraction, text in (((6, 4), "6/4"), ((4, 2), "4/2"), ((0, 7), "0/7"), ((5, 5), "5/5"), ((12, 1), "12")):
            self.assertEqual(show_fraction(fraction), text)

    def test_many_figures(self):
        chance = random.Random(163)
        for count in range(200):
            figures = ["".join(chance.choices("123456789", k=chance.randint(1, 60))) for part in range(2)]
            told = figures[0] if figures[1] == "1" else "/".join(figures)
            self.assertEqual(show_fraction((int(figures[0]), int(figures[1]))), told)
        self.assertEqual(show_fraction((HUGE - 1, HUGE - 2)), "9" * 60 + "/" + "9" * 59 + "8")
        self.assertEqual(show_fraction((HUGE - 1, 1)), "9" * 60)
        self.assertEqual(show_fraction((0, HUGE - 1)), "0/" + "9" * 60)

    def test_names(self):
        self.assertEqual(show_fraction(fraction=(1, 2)), "1/2")


if __name__ == "__main__":
    unittest.main()
