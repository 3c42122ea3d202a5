import random
import re
import unittest
from fractions import Fraction

from ablehands.blocks import blocks
from ablehands.dealing import Dealing
from ablehands.desk import Desk
from ablehands.errors import DealError, NoBook, NoHand, NoRow, NoWork, TooMany
from tests.helper import NUMBER, SIGNS, counted, in_a_moment, refusal

ROW = re.compile(f"hands {NUMBER}|put {NUMBER}(?: {NUMBER})*|take {NUMBER}|come|go|loads|parts|deal|moved|waits")
ASKED = ("loads", "parts", "deal", "moved", "waits")
NO_ROWS = [
    "", " ", "  ", "hand 2", "hands", "hands ", "hands  2", " hands 2", "hands 2 ", "hands 2 3", "hands two",
    "hands 02", "hands +2", "hands -2", "hands 2\n", "hands\t2", "hands 1000000", "Hands 2", "hands 2.0", "hands 2;",
    "hands; 2", "put", "put ", "put  0", "put 0 ", " put 0", "put 0  1", "put 00", "put 0 01", "put -1", "put +1",
    "put 0,1", "put a", "put 0\t1", "put 0\n", "put 1000000", "put 0 1000000", "put 0; 1", "PUT 0", "put0", "0",
    "take", "take ", "take 0 1", "take 00", "take -1", "take 0 ", "take  0", "take 1000000", "take x", "come ",
    " come", "come 1", "come 0", "go ", " go", "go 0", "going", "loads ", "loads 0", " loads", "loads loads", "load",
    "parts 1", "parts ", "part", "deal 0", "deal ", "deals", "moved 0", "moved ", "waits ", "waits 0", "wait",
    "come\n", "\ncome", "come\tgo", "come go", "ok", "none", "works", "levels", "say", "hands 2\nput 0", "loads\n",
    "put 0 1_0", "put 0 0x1", "put 0 1.", "hands 2; 0 1",
]


def seen(desk, asked=ASKED):
    """What the desk tells when it is asked, NoRow where no dealing stands."""
    try:
        return [desk.say(row) for row in asked]
    except NoRow:
        return NoRow


def answer_of(desk, row, asked=ASKED):
    """The desk's answer, or the class with which it refuses; a refusal must change nothing."""
    before = seen(desk, asked)
    try:
        return desk.say(row)
    except DealError as e:
        assert seen(desk, asked) == before, row
        return e.__class__


def in_parts(dealing):
    """The loads in parts where every weight is 1, as texts."""
    book = (len(dealing.loads()), tuple(dealing.works().values()))
    rows = blocks(book, (1,) * len(book[1]))
    return [str(Fraction(*load)) for hand in range(book[0]) for some, load in rows if hand in some]


class Beside:
    """What a desk must answer, by the document's words and a Dealing."""

    def __init__(self):
        self.dealing = None

    def answer(self, row):
        if not ROW.fullmatch(row):
            return NoRow
        word, *numbers = [int(part) if part.isdigit() else part for part in row.split(" ")]
        if word == "hands":
            if not 1 <= numbers[0] <= 6:
                return NoBook
            self.dealing = Dealing(numbers[0])
            return "ok"
        if self.dealing is None:
            return NoRow
        return self.deed(word, numbers) if word in ("put", "take", "come", "go") else self.told(word)

    def deed(self, word, numbers):
        handed = {"put": (tuple(numbers),), "take": tuple(numbers)}.get(word, ())
        try:
            told = getattr(self.dealing, word)(*handed)
        except DealError as e:
            return e.__class__
        return "ok" if told is None else str(told)

    def told(self, word):
        loads, deal = self.dealing.loads(), self.dealing.deal()
        return {
            "loads": " ".join(map(str, loads)),
            "parts": " ".join(in_parts(self.dealing)),
            "deal": " ".join(f"{number}:{deal[number]}" for number in sorted(deal)) or "none",
            "moved": str(self.dealing.moved()[1]),
            "waits": str(sum(sum(range(load + 1)) for load in loads)),
        }[word]


def draw_row(chance):
    """A row of any kind: most are good ones of some dealing."""
    some = sorted(chance.sample(range(7), chance.choice((1, 1, 2, 2, 3, 6))))
    rows = [f"hands {chance.randint(0, 8)}", f"take {chance.randint(0, 60)}", "come", "go"]
    puts = ["put " + " ".join(map(str, some)), "put " + " ".join(map(str, [hand % 3 for hand in some]))]
    return chance.choice(puts * 4 + rows[1:2] * 8 + rows * (chance.random() < 0.5) + list(ASKED))


class Desks(unittest.TestCase):

    def check(self, desk, beside, row):
        # Loads in parts are long in the asking, and told by the works that the deal shows.
        told = answer_of(desk, row, ("loads", "deal", "moved"))
        self.assertEqual(told, beside.answer(row), row)
        return told

    def test_written_ones(self):
        desk = Desk()
        for row, told in (
                ("hands 2", "ok"), ("deal", "none"), ("loads", "0 0"), ("parts", "0 0"), ("moved", "0"),
                ("waits", "0"), ("put 0 1", "0"), ("deal", "0:0"), ("put 0", "1"), ("deal", "0:1 1:0"),
                ("moved", "1"), ("waits", "2"), ("put 1", "2"), ("loads", "1 2"), ("parts", "3/2 3/2"),
                ("waits", "4"), ("come", "2"), ("loads", "1 2 0"), ("parts", "3/2 3/2 0"), ("put 0 1 2", "3"),
                ("deal", "0:1 1:0 2:1 3:2"), ("parts", "3/2 3/2 1"), ("take 2", "ok"), ("loads", "1 1 1"),
                ("parts", "1 1 1"), ("take 3", "ok"), ("go", "ok"), ("deal", "0:1 1:0"), ("put 0 1", "4"),
                ("hands 1", "ok"), ("deal", "none"), ("moved", "0"), ("put 0", "0")):
            self.assertEqual(desk.say(row), told, row)

    def test_long_runs(self):
        kinds = set()
        for seed in range(25):
            chance = random.Random(1700 + seed)
            desk, beside = Desk(), Beside()
            self.check(desk, beside, f"hands {chance.randint(1, 6)}" if seed else "loads")
            for count in range(150):
                row = draw_row(chance)
                # A new dealing comes but now and then, so that works gather.
                if row[:5] != "hands" or chance.random() < 0.3:
                    kinds.add((row.split(" ")[0], self.kind(self.check(desk, beside, row))))
                self.look(desk, beside)
        for word, error in (("hands", NoBook), ("put", NoBook), ("put", TooMany), ("take", NoWork), ("come", TooMany),
                            ("go", NoHand), ("loads", NoRow)):
            self.assertIn((word, error), kinds)

    def kind(self, told):
        return None if isinstance(told, str) else told

    def look(self, desk, beside):
        """What the desk tells, taken together."""
        if beside.dealing is None:
            return
        loads, parts, deal, moved, waits = seen(desk)
        self.assertEqual([loads, parts, deal, moved, waits], [beside.answer(row) for row in ASKED])
        rows = [] if deal == "none" else [tuple(map(int, pair.split(":"))) for pair in deal.split(" ")]
        many = counted((len(beside.dealing.loads()), ()), [hand for number, hand in rows])
        self.assertEqual(loads, " ".join(map(str, many)))
        self.assertEqual(rows, sorted(rows))
        self.assertEqual(sum(Fraction(load) for load in parts.split(" ")), len(rows))

    def test_one_sign_changed(self):
        answers = {}
        desk, beside = Desk(), Beside()
        for row in ("hands 3", "put 0 1", "put 2", "take 1", "take 10", "come", "go", "loads", "parts", "deal", "moved",
                    "waits"):
            self.check(desk, beside, "hands 4")
            for hand in range(4):
                self.check(desk, beside, f"put {hand}")
            for at in range(len(row) + 1):
                changed = [row[:at] + row[at + 1:]]
                for sign in SIGNS:
                    changed += [row[:at] + sign + row[at:], row[:at] + sign + row[at + 1:]]
                for other in changed:
                    kind = self.kind(self.check(desk, beside, other))
                    answers[kind] = answers.get(kind, 0) + 1
        self.assertLessEqual({None, NoRow, NoBook, NoWork}, set(answers))

    def test_no_rows(self):
        for row in NO_ROWS:
            self.assertIs(answer_of(Desk(), row), NoRow, row)
            desk = self.begun()
            self.assertIs(answer_of(desk, row), NoRow, row)
            self.assertEqual(desk.say("put 0"), "2")

    def begun(self, hands=2):
        desk = Desk()
        for row in (f"hands {hands}", "put 0 1", "put 0"):
            desk.say(row)
        return desk

    def test_no_dealing_stands(self):
        for row in ("put 0", "put 1 0", "take 0", "come", "go") + ASKED:
            desk = Desk()
            self.assertIs(answer_of(desk, row), NoRow, row)
            # Hands that are none leave no dealing behind them.
            self.assertIs(answer_of(desk, "hands 0"), NoBook)
            self.assertIs(answer_of(desk, row), NoRow, row)
            self.assertEqual(desk.say("hands 6"), "ok")
            self.assertEqual(desk.say("loads"), "0 0 0 0 0 0")

    def test_refusals(self):
        for row, error in (
                ("hands 0", NoBook), ("hands 7", NoBook), ("hands 999999", NoBook), ("put 2", NoBook),
                ("put 0 2", NoBook), ("put 1 0", NoBook), ("put 0 0", NoBook), ("put 999999", NoBook),
                ("put 0 1 2 3 4 5 6", NoBook), ("take 2", NoWork), ("take 999999", NoWork), ("go", NoHand)):
            self.assertIs(answer_of(self.begun(), row), error, row)
        for row, error in (("come", TooMany), ("put 5 6", NoBook), ("take 12", NoWork)):
            self.assertIs(answer_of(self.begun(6), row), error, row)
        desk = Desk()
        desk.say("hands 1")
        self.assertIs(answer_of(desk, "go"), NoHand)

    def test_twelve_works(self):
        desk = self.begun(2)
        for number in range(2, 12):
            self.assertEqual(desk.say("put 0 1"), str(number))
        self.assertIs(answer_of(desk, "put 0"), TooMany)
        self.assertIs(answer_of(desk, "put 1 0"), NoBook)
        self.assertIs(answer_of(desk, "put 0 "), NoRow)
        self.assertEqual(desk.say("take 0"), "ok")
        self.assertIs(answer_of(desk, "take 0"), NoWork)
        self.assertEqual(desk.say("put 0"), "12")
        self.assertEqual(desk.say("deal").split(" ")[0][:2], "1:")

    def test_a_new_dealing_begins_anew(self):
        desk = self.begun()
        self.assertEqual(desk.say("moved"), "1")
        self.assertIs(answer_of(desk, "hands 7"), NoBook)
        self.assertEqual(desk.say("moved"), "1")
        desk.say("hands 2")
        self.assertEqual(seen(desk), ["0 0", "0 0", "none", "0", "0"])

    def test_two_desks_by_turns(self):
        texts = []
        for turns in ((0,), (1,), (0, 1)):
            chances = [random.Random(1801), random.Random(1802)]
            desks = [self.begun(4), self.begun(4)]
            answers = [[], []]
            for count in range(150):
                for one in turns:
                    answers[one].append(answer_of(desks[one], draw_row(chances[one])))
            texts.append(answers)
        self.assertEqual(texts[2], [texts[0][0], texts[1][1]])
        one, other = Desk(), Desk()
        one.say("hands 2")
        self.assertIs(answer_of(other, "loads"), NoRow)

    def test_long_rows(self):
        desk = self.begun()
        for row, error in (("put" + " 0" * 20000, NoBook), ("put " + "0" * 50000, NoRow),
                           ("loads" + " " * 50000, NoRow), ("put" + " 0" * 20000 + " ", NoRow)):
            self.assertIs(in_a_moment(answer_of, desk, row), error)

    def test_other_things_than_texts(self):
        for thing in (None, 0, (), [], {}, ["loads"], ("hands", 2)):
            self.assertIs(refusal(self.begun().say, thing), NoRow, thing)

    def test_names(self):
        self.assertEqual(Desk().say(row="hands 2"), "ok")


if __name__ == "__main__":
    unittest.main()
