"""Point 21: pictures of trees, compared cell by cell."""

import copy
import random
import unittest

from platecuts.errors import NoPlate, NoTree, TooLarge
from platecuts.measures import areas_of
from platecuts.pictures import picture
from platecuts.shops import Shop

from things import (HUGE, SIXTY, Refusing, as_lists, chance_tree, comb, mixed, no_wholes, odd_rows, odd_texts,
                    odd_things, sides_behind, sides_by_kind)

REST = ("rest",)
KINDS = [(3, 2, 5, 4, True), (4, 1, 9, 0, False), (2, 2, 1, 1, True)]


def sign_at(shop, wide, high, tree, x, y):
    """The sign of one cell of a part, found down the tree."""
    if tree[0] == "rest":
        return "."
    if tree[0] == "piece":
        _, kind, turned, left, below = tree
        a, b = sides_by_kind(shop, kind, turned)
        return "abcdefgh"[kind] if left <= x < left + a and below <= y < below + b else ","
    way, p, first, second = tree
    ahead, behind = sides_behind(shop.blade(), way, p, wide, high)
    place = x if way == "down" else y
    if place < p:
        return sign_at(shop, *ahead, first, x, y)
    if place < p + shop.blade():
        return "+"
    step = p + shop.blade()
    return sign_at(shop, *behind, second, *((x - step, y) if way == "down" else (x, y - step)))


class Looking(Refusing, unittest.TestCase):
    def look(self, shop, wide, high, tree):
        """The picture, when it is the same cell by cell, for lists and tuples."""
        expected = ["".join(sign_at(shop, wide, high, tree, x, y) for x in range(wide)) for y in reversed(range(high))]
        for form in (tree, as_lists(tree), mixed(tree, random.Random(1))):
            before = copy.deepcopy(form)
            told = picture(shop, wide, high, form)
            self.assertEqual(told, expected)
            self.assertIs(type(told), list)
            self.assertTrue(all(type(row) is str for row in told))
            self.assertEqual(repr(form), repr(before))
        signs = "".join(told)
        areas = (sum(signs.count(letter) for letter in "abcdefgh"), signs.count("."), signs.count(","), signs.count("+"))
        self.assertEqual(areas_of(shop, wide, high, tree), areas)
        return told


class Pictures(Looking):
    def test_all_four_sorts(self):
        tree = ("down", 4, ("across", 3, ("piece", 0, False, 1, 1), ("down", 1, REST, ("piece", 0, True, 0, 0))),
                ("across", 1, ("piece", 1, False, 0, 0), REST))
        self.assertEqual(self.look(Shop(1, KINDS), 9, 7, tree), [".+aa+....",
                                                                 ".+aa+....",
                                                                 ".+aa+....",
                                                                 "+++++....",
                                                                 ",aaa+....",
                                                                 ",aaa+++++",
                                                                 ",,,,+bbbb"])

    def test_without_a_cut(self):
        shop = Shop(1, KINDS)
        self.assertEqual(self.look(shop, 3, 2, REST), ["...", "..."])
        self.assertEqual(self.look(shop, 1, 1, REST), ["."])
        self.assertEqual(self.look(shop, 3, 2, ("piece", 0, False, 0, 0)), ["aaa", "aaa"])
        self.assertEqual(self.look(shop, 4, 4, ("piece", 0, True, 1, 0)), [",,,,", ",aa,", ",aa,", ",aa,"])
        self.assertEqual(self.look(shop, 4, 4, ("piece", 0, True, 1, 1)), [",aa,", ",aa,", ",aa,", ",,,,"])

    def test_each_letter(self):
        shop = Shop(0, [(1, 1, 1, 0, False)] * 8)
        tree = ("piece", 7, False, 0, 0)
        for kind in reversed(range(7)):
            tree = ("down", 1, ("piece", kind, False, 0, 0), tree)
        self.assertEqual(self.look(shop, 8, 1, tree), ["abcdefgh"])
        tree = ("piece", 7, False, 0, 0)
        for kind in reversed(range(7)):
            tree = ("across", 1, ("piece", kind, False, 0, 0), tree)
        self.assertEqual(self.look(shop, 1, 8, tree), list("hgfedcba"))

    def test_blades(self):
        for blade in range(5):
            shop = Shop(blade, KINDS)
            self.assertEqual(self.look(shop, 3 + blade, 1, ("down", 1, REST, REST)), ["." + "+" * blade + ".."])
            self.assertEqual(self.look(shop, 1, 3 + blade, ("across", 1, REST, REST)), [".", "."] + ["+"] * blade + ["."])

    def test_sixty_by_sixty(self):
        shop = Shop(1, KINDS + [(60, 60, 1, 0, False)])
        self.assertEqual(self.look(shop, 60, 60, REST), ["." * 60] * 60)
        self.assertEqual(self.look(shop, 60, 60, ("piece", 3, False, 0, 0)), ["d" * 60] * 60)
        self.look(shop, 60, 60, comb(["down", "across"] * 20, 1, REST, ("piece", 2, False, 3, 4)))
        self.assertEqual(self.look(shop, 60, 1, comb(["down"] * 29, 1, REST, REST)), [".+" * 29 + ".."])
        self.assertEqual(self.look(shop, 1, 60, comb(["across"] * 29, 1, REST, REST)), [".", "."] + ["+", "."] * 29)

    def test_by_chance(self):
        chance = random.Random(35)
        for _ in range(150):
            shop = Shop(chance.randint(0, 3), KINDS)
            wide, high = chance.randint(1, 30), chance.randint(1, 30)
            self.look(shop, wide, high, chance_tree(chance, shop, wide, high, chance.randint(0, 40)))
        for _ in range(5):
            shop = Shop(chance.randint(0, 2), KINDS)
            self.look(shop, 60, 60, chance_tree(chance, shop, 60, 60, 255))


class Promises(Looking):
    def setUp(self):
        self.shop = Shop(1, KINDS)

    def test_told_lists_are_the_askers_own(self):
        told = picture(self.shop, 5, 4, REST)
        told[0] = "x"
        told.clear()
        self.assertEqual(picture(self.shop, 5, 4, REST), ["....."] * 4)

    def test_no_plate_comes_first(self):
        for thing in (REST, None, 7):
            for wrong in no_wholes(1):
                self.refused(NoPlate, picture, self.shop, wrong, 5, thing)
                self.refused(NoPlate, picture, self.shop, 5, wrong, thing)
                self.refused(NoPlate, picture, self.shop, wrong, 61, thing)
                self.refused(NoPlate, picture, self.shop, 61, wrong, thing)

    def test_too_large_comes_next(self):
        for thing in (REST, None, 7, ("down", 1, REST, REST)):
            for side in (61, 62, SIXTY, HUGE):
                for other in (1, 60, side):
                    self.refused(TooLarge, picture, self.shop, side, other, thing)
                    self.refused(TooLarge, picture, self.shop, other, side, thing)

    def test_no_tree(self):
        wrong = odd_things() + odd_texts() + odd_rows() + [0, 1, True, ("rest", 0), ("piece", 0, False, 3, 0), (),
                                                          ("piece", 0, 0, 0, 0), ("down", 4, REST, REST)]
        for thing in wrong:
            self.refused(NoTree, picture, self.shop, 5, 5, thing)
            self.refused(NoTree, picture, self.shop, 5, 5, ("across", 2, REST, thing))


if __name__ == "__main__":
    unittest.main()
