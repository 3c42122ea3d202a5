"""What the document promises over the whole program: its interface, that nothing is changed or kept, and point 3."""

import copy
import importlib
import inspect
import random
import unittest
from fractions import Fraction

from ablehands.beside import beside
from ablehands.blocks import blocks
from ablehands.coming import as_they_come
from ablehands.costs import cheapest
from ablehands.dealing import Dealing
from ablehands.desk import Desk
from ablehands.loads import falling, loads, waits
from ablehands.parts import in_parts
from ablehands.rounded import rounded
from ablehands.turning import are_levels, bettered, evenest
from ablehands.ways import betters, gone
from ablehands.weighed import do_show, least_most, weighed_loads
from tests.helper import (
    BOOK, NO_COSTS, NO_DEALS, NO_ROOMS, NO_WEIGHTS, all_deals, counted, draw_book, draw_deal, draw_weights, drawn,
    even_sums, few_deals, no_books, refusal,
)

DEAL = (0, 1, 0)
WAY = [(0, 0, 1), (1, 1, 2)]
WEIGHTS = (4, 3, 1)
SHARES = [((5, 3), (7, 3), (0, 1)), ((0, 1), (1, 3), (8, 3)), ((1, 1), (0, 1), (0, 1))]
COSTS = ((1, 5, 9), (2, 2, 2), (0, 7, 999))

# For each module its functions, as the document shows them, each with things to hand in.
INTERFACE = {
    "books": {"is_book": {"thing": BOOK}, "is_deal": {"book": BOOK, "thing": DEAL}},
    "loads": {
        "loads": {"book": BOOK, "deal": DEAL}, "falling": {"book": BOOK, "deal": DEAL},
        "no_less_even": {"book": BOOK, "one": DEAL, "other": (1, 2, 0)}, "waits": {"book": BOOK, "deal": DEAL},
    },
    "ways": {
        "is_way": {"book": BOOK, "deal": DEAL, "some": WAY}, "gone": {"book": BOOK, "deal": DEAL, "some": WAY},
        "betters": {"book": BOOK, "deal": DEAL, "some": WAY},
    },
    "turning": {
        "are_levels": {"book": BOOK, "deal": (1, 2, 0), "levels": (1, 1, 1)},
        "levels_or_way": {"book": BOOK, "deal": DEAL}, "bettered": {"book": BOOK, "deal": DEAL},
        "evenest": {"book": BOOK},
    },
    "may": {"may_go": {"book": BOOK}, "may_have": {"book": BOOK}, "how_many": {"book": BOOK}},
    "growing": {"grows": {"book": BOOK}, "falls": {"book": BOOK}},
    "fractions": {
        "lowest": {"a": 6, "b": 4}, "plus": {"one": (1, 2), "other": (0, 1)},
        "is_less": {"one": (1, 3), "other": (1, 2)},
    },
    "parts": {
        "in_parts": {"book": BOOK, "weights": WEIGHTS},
        "are_shares": {"book": BOOK, "weights": WEIGHTS, "shares": SHARES},
        "are_level": {"book": BOOK, "weights": WEIGHTS, "shares": SHARES},
    },
    "blocks": {"blocks": {"book": BOOK, "weights": WEIGHTS}, "first_set": {"book": BOOK, "weights": WEIGHTS}},
    "beside": {"beside": {"book": BOOK}},
    "weighed": {
        "weighed_loads": {"book": BOOK, "weights": WEIGHTS, "deal": DEAL},
        "least_most": {"book": BOOK, "weights": WEIGHTS},
        "do_show": {"book": BOOK, "weights": WEIGHTS, "bars": [(0,), (1,)], "number": 3},
    },
    "rounded": {"rounded": {"book": BOOK, "weights": WEIGHTS}},
    "texts": {
        "show_book": {"book": BOOK}, "show_fraction": {"fraction": (3, 2)}, "read_book": {"text": "hands 3; 0 1; 2"},
    },
    "rooms": {
        "in_rooms": {"book": BOOK, "rooms": (1, 0, 1)},
        "is_in_rooms": {"book": BOOK, "rooms": (1, 0, 1), "thing": (0, 2, None)},
        "do_bar": {"book": BOOK, "rooms": (1, 0, 1), "some": (0, 1), "number": 1},
    },
    "coming": {"as_they_come": {"book": BOOK}},
    "costs": {
        "cheapest": {"book": BOOK, "costs": COSTS}, "cost_of": {"book": BOOK, "costs": COSTS, "deal": DEAL},
        "are_prices": {"book": BOOK, "costs": COSTS, "deal": (1, 2, 0), "prices": (1, 2, 2)},
    },
}
METHODS = {
    "put": {"able": (0, 1)}, "take": {"number": 0}, "come": {}, "go": {}, "works": {}, "deal": {}, "loads": {},
    "levels": {}, "moved": {},
}


def functions():
    """Rows (function, things to hand in by their names)."""
    for module, rows in INTERFACE.items():
        for name, handed in rows.items():
            yield getattr(importlib.import_module(f"ablehands.{module}"), name), handed


def drawn_calls():
    """Rows (function, things to hand in): those of a book, with other things of books drawn."""
    chance = random.Random(2206)
    for count in range(40):
        book = draw_book(chance, 4, 7)
        things = {
            "book": book, "deal": draw_deal(chance, book), "one": draw_deal(chance, book), "other": evenest(book)[0],
            "weights": draw_weights(chance, book), "rooms": tuple([chance.randint(0, 3) for hand in range(book[0])]),
            "costs": (tuple(range(len(book[1]))),) * book[0],
        }
        for tell, handed in functions():
            if "book" in handed and set(handed) <= set(things):
                yield tell, {name: things[name] for name in handed}
                if "deal" in handed:
                    yield tell, {name: things["other" if name == "deal" else name] for name in handed}


def parameters(call):
    return list(inspect.signature(call).parameters)


def boxes(thing):
    """The lists, dicts and tuples that the thing is made of; the empty tuple is always the same one."""
    inner = list(thing.values()) if isinstance(thing, dict) else thing
    if not isinstance(inner, (list, tuple)):
        return []
    own = [] if isinstance(thing, tuple) and not thing else [thing]
    return own + [box for part in inner for box in boxes(part)]


def emptied(thing):
    """The thing's lists and dicts, all emptied."""
    for box in boxes(thing):
        if not isinstance(box, tuple):
            box.clear()


class Interface(unittest.TestCase):

    def test_arguments_by_their_names(self):
        for tell, handed in functions():
            self.assertEqual(parameters(tell), list(handed), tell)
            told = repr(tell(*handed.values()))
            self.assertEqual(repr(tell(**handed)), told, tell)
            self.assertEqual(repr(tell(**dict(reversed(handed.items())))), told, tell)

    def test_methods_by_their_names(self):
        self.assertEqual(parameters(Dealing), ["hands"])
        self.assertEqual(parameters(Desk), [])
        dealing = Dealing(hands=2)
        for name, handed in METHODS.items():
            self.assertEqual(parameters(getattr(dealing, name)), list(handed))
            getattr(dealing, name)(**handed)
        self.assertEqual(parameters(Desk().say), ["row"])
        self.assertEqual(Desk().say(row="hands 3"), "ok")


class NothingKept(unittest.TestCase):

    def test_what_is_handed_in_stays(self):
        for tell, handed in list(functions()) + list(drawn_calls()):
            before = repr(handed)
            tell(**handed)
            self.assertEqual(repr(handed), before, tell)

    def test_what_is_told_is_new(self):
        for tell, handed in list(functions()) + list(drawn_calls()):
            first, second = tell(**handed), tell(**handed)
            old = [id(box) for box in boxes(first) + boxes(handed)]
            self.assertEqual([box for box in boxes(second) if id(box) in old], [], tell)

    def test_what_is_told_may_be_changed(self):
        for tell, handed in list(functions()) + list(drawn_calls()):
            first = tell(**handed)
            text = repr(first)
            emptied(first)
            self.assertEqual(repr(tell(**handed)), text, tell)

    def test_what_is_handed_in_may_be_changed_behind_the_call(self):
        for tell, handed in functions():
            own = copy.deepcopy(handed)
            told = tell(**own)
            text = repr(told)
            emptied(own)
            self.assertEqual(repr(told), text, tell)
            self.assertEqual(repr(tell(**copy.deepcopy(handed))), text, tell)

    def test_a_dealing_tells_new_things(self):
        dealing = Dealing(3)
        work = tuple([0, 1])
        dealing.put(work)
        dealing.put((1, 2))
        for name in ("works", "deal", "loads", "levels", "moved"):
            first, second = getattr(dealing, name)(), getattr(dealing, name)()
            self.assertEqual(first, second)
            old = [id(box) for box in boxes(first) + [work]]
            self.assertEqual([box for box in boxes(second) if id(box) in old], [], name)

    def test_refused_things_stay(self):
        for tell, handed in functions():
            if "book" in handed:
                for book in no_books():
                    refusal(tell, *{**handed, "book": book}.values())
            for name, things in (("deal", NO_DEALS), ("weights", NO_WEIGHTS), ("rooms", NO_ROOMS), ("costs", NO_COSTS)):
                if name in handed:
                    for thing in things:
                        self.assertIsNotNone(refusal(tell, *{**handed, name: thing}.values()), (tell, thing))


class Promise(unittest.TestCase):

    def measures(self, counts):
        """Several measures of how uneven loads are, less being evener."""
        return even_sums(counts) + [sum(load ** power for load in counts) for power in (2, 3, 7)]

    def test_evenest_by_every_measure(self):
        for book in few_deals(80, 2201):
            deal, levels = evenest(book)
            self.assertTrue(are_levels(book, deal, levels))
            best = self.measures(loads(book, deal)) + [waits(book, deal)]
            for other in all_deals(book):
                measured = self.measures(counted(book, other)) + [waits(book, other)]
                self.assertTrue(all(mine <= yours for mine, yours in zip(best, measured)), (book, other))

    def test_ways_lead_to_such_a_one(self):
        for chance, book in drawn(100, 2202):
            deal = draw_deal(chance, book)
            ways, last = bettered(book, deal)
            for some in ways:
                self.assertTrue(betters(book, deal, some))
                ahead, deal = deal, gone(book, deal, some)
                self.assertLess(waits(book, deal), waits(book, ahead))
            self.assertEqual(deal, last)
            self.assertEqual(falling(book, last), falling(book, evenest(book)[0]))

    def test_whole_loads_stand_beside_those_in_parts(self):
        for chance, book in drawn(100, 2203):
            parts = in_parts(book, (1,) * len(book[1]))[0]
            for load, part, (low, high) in zip(loads(book, evenest(book)[0]), parts, beside(book)):
                self.assertLess(abs(load - Fraction(*part)), 1)
                self.assertIn(load, (low, high))

    def test_weights(self):
        chance = random.Random(2204)
        for count in range(100):
            book = draw_book(chance, 4, 7)
            weights = draw_weights(chance, book)
            most, deal, bars = least_most(book, weights)
            self.assertEqual(max(weighed_loads(book, weights, deal)), most)
            self.assertTrue(do_show(book, weights, bars, most))
            self.assertLessEqual(most, max(weighed_loads(book, weights, rounded(book, weights))))
            self.assertGreaterEqual(most, Fraction(*blocks(book, weights)[0][1]))

    def test_kept_deals_are_the_evenest(self):
        for chance, book in drawn(100, 2205):
            dealing = Dealing(book[0])
            desk = Desk()
            desk.say(f"hands {book[0]}")
            for able in book[1]:
                dealing.put(able)
                desk.say("put " + " ".join(map(str, able)))
            deal = tuple(dealing.deal().values())
            self.assertEqual(falling(book, deal), falling(book, evenest(book)[0]))
            self.assertEqual(desk.say("waits"), str(waits(book, deal)))
            self.assertLessEqual(waits(book, deal), waits(book, as_they_come(book)))
            costs = (tuple(range(1, len(book[1]) + 1)),) * book[0]
            self.assertEqual(cheapest(book, costs)[0], waits(book, deal))


if __name__ == "__main__":
    unittest.main()
