"""Points 1 to 4, over the whole program, and the names and arguments of the interface."""

import importlib
import inspect
import random
import unittest

from platecuts.best import best_of
from platecuts.layings import is_laying
from platecuts.measures import areas_of, counts_of, pieces_of, rests_of, worth_of
from platecuts.parting import tree_or_knot
from platecuts.pictures import picture
from platecuts.shops import Shop
from platecuts.shoptexts import read_shop, shop_text
from platecuts.stores import Store
from platecuts.tables import bears
from platecuts.tellings import telling_of, tree_told
from platecuts.trees import is_tree
from platecuts.turning import best_by_turns, turns_of

from things import as_lists, chance_tree, comb

KINDS = [(3, 2, 7, 2, True), (4, 1, 4, 2, False), (2, 2, 3, 1, True), (5, 3, 18, 1, True), (1, 1, 1, 0, False)]
# Each file, and in it each function, with how many things are handed in, and each class with its methods.
INTERFACE = {
    "shops": {"Shop": (2, {"blade": 0, "kinds": 0, "lyings": 0, "sides": 2})},
    "shoptexts": {"shop_text": 1, "read_shop": 1},
    "trees": {"is_tree": 4},
    "measures": {"pieces_of": 4, "rests_of": 4, "counts_of": 4, "worth_of": 4, "areas_of": 4},
    "layings": {"is_laying": 4},
    "parting": {"tree_or_knot": 4},
    "best": {"best_of": 3},
    "tables": {"bears": 4},
    "turning": {"turns_of": 4, "best_by_turns": 4},
    "loads": {"load_of": 3},
    "weighing": {"kind_weights": 5, "plate_load": 5, "bears_worth": 5, "plates_by_weights": 5},
    "bundles": {"greatest_bundles": 3},
    "fewest": {"fewest_of": 3},
    "tellings": {"telling_of": 4, "tree_told": 4},
    "stores": {"Store": (2, {"put": 2, "cut": 2, "plates": 0, "made": 0, "cells": 0, "undo": 0})},
    "pictures": {"picture": 4},
    "jobs": {"Job": (3, {"best": 0, "few": 0, "report": 0})},
}


def taken(deed):
    return len(inspect.signature(deed).parameters)


class Interface(unittest.TestCase):
    def test_names_and_arguments(self):
        for file, names in INTERFACE.items():
            module = importlib.import_module("platecuts." + file)
            for name, many in names.items():
                thing = getattr(module, name)
                if isinstance(many, int):
                    self.assertEqual(taken(thing), many, name)
                else:
                    self.assertIsInstance(thing, type)
                    self.assertEqual(taken(thing), many[0], name)
                    for method, things in many[1].items():
                        self.assertEqual(taken(getattr(thing, method)), things + 1, (name, method))


class Whole(unittest.TestCase):
    def setUp(self):
        self.chance = random.Random(37)

    def drawn(self, most_side, most_cuts):
        """A shop, a plate and a tree of it by chance."""
        shop = Shop(self.chance.randint(0, 2), self.chance.sample(KINDS, self.chance.randint(1, 5)))
        wide, high = self.chance.randint(1, most_side), self.chance.randint(1, most_side)
        return shop, wide, high, chance_tree(self.chance, shop, wide, high, self.chance.randint(0, most_cuts))

    def test_each_tree_is_a_laying_that_has_a_tree(self):
        for _ in range(300):
            shop, wide, high, tree = self.drawn(25, 39)
            pieces = pieces_of(shop, wide, high, tree)
            self.assertIs(is_laying(shop, wide, high, pieces), True)
            self.assertEqual(sum(areas_of(shop, wide, high, tree)), wide * high)
            self.chance.shuffle(pieces)
            word, found = tree_or_knot(shop, wide, high, pieces)
            self.assertEqual(word, "tree")
            self.assertIs(is_tree(shop, wide, high, found), True)
            self.assertEqual(pieces_of(shop, wide, high, found), sorted(pieces))
            self.assertEqual(worth_of(shop, wide, high, found), worth_of(shop, wide, high, tree))

    def test_no_tree_is_worth_more_than_told(self):
        for _ in range(60):
            shop, wide, high, tree = self.drawn(12, 30)
            worth = worth_of(shop, wide, high, tree)
            most, best, table = best_of(shop, wide, high)
            self.assertLessEqual(worth, most)
            self.assertEqual(worth_of(shop, wide, high, best), most)
            self.assertIs(bears(shop, wide, high, table), True)
            turns = turns_of(shop, wide, high, tree)
            by_turns, other = best_by_turns(shop, wide, high, min(turns, 32))
            self.assertGreaterEqual(by_turns, worth)
            self.assertLessEqual(by_turns, most)
            self.assertLessEqual(turns_of(shop, wide, high, other), turns)

    def test_trees_of_one_telling(self):
        for _ in range(200):
            shop, wide, high, tree = self.drawn(20, 40)
            other = tree_told(shop, wide, high, telling_of(shop, wide, high, tree))
            for measure in (counts_of, worth_of, areas_of, turns_of):
                self.assertEqual(measure(shop, wide, high, other), measure(shop, wide, high, tree))

    def test_what_a_store_was_given(self):
        for _ in range(100):
            shop, wide, high, tree = self.drawn(20, 30)
            least = self.chance.randint(1, 4)
            store = Store(shop, least)
            store.put(wide, high)
            came = store.cut(0, tree)
            put, there, made, lost = store.cells()
            pieces, rests, margins, blades = areas_of(shop, wide, high, tree)
            kept = sum(a * b for x, y, a, b in rests_of(shop, wide, high, tree) if min(a, b) >= least)
            self.assertEqual((put, there, made, lost), (wide * high, kept, pieces, rests - kept + margins + blades))
            self.assertEqual(put, there + made + lost)
            self.assertEqual(store.made(), counts_of(shop, wide, high, tree))
            self.assertEqual([plate[0] for plate in store.plates()], came)

    def test_shops_that_were_read_are_the_same(self):
        for _ in range(40):
            shop, wide, high, tree = self.drawn(12, 20)
            read = read_shop(shop_text(shop))
            self.assertEqual(best_of(read, wide, high), best_of(shop, wide, high))
            self.assertEqual(picture(read, wide, high, as_lists(tree)), picture(shop, wide, high, tree))
            self.assertEqual(telling_of(read, wide, high, tree), telling_of(shop, wide, high, tree))

    def test_somewhat_beyond_the_limits(self):
        # Deeper and with more cuts than is promised: nothing fails for that.
        shop = Shop(0, [(1, 1, 1, 1, False)])
        rest = ("rest",)
        for ways in (["down"] * 70, ["down", "across"] * 35, ["across", "down"] * 50):
            tree = comb(ways, 1, ("piece", 0, False, 0, 0), rest)
            telling = telling_of(shop, 120, 120, tree)
            self.assertEqual(telling_of(shop, 120, 120, tree_told(shop, 120, 120, telling)), telling)
            store = Store(shop, 1)
            store.put(120, 120)
            store.cut(0, tree)
            self.assertEqual(store.made(), [len(ways)])


if __name__ == "__main__":
    unittest.main()
