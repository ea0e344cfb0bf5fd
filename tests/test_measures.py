"""Points 9 and 4: what is told of trees of plates, also compared cell by cell."""

import copy
import random
import unittest

from platecuts.errors import NoPlate, NoTree
from platecuts.layings import is_laying
from platecuts.measures import areas_of, counts_of, pieces_of, rests_of, worth_of
from platecuts.shops import Shop

from things import (HUGE, SIXTY, Refusing, as_lists, bush, cells_of, chance_tree, comb, is_all_tuples, mixed,
                    no_wholes, odd_rows, odd_texts, odd_things, paint, sides_by_kind)

REST = ("rest",)
KINDS = [(3, 2, 5, 4, True), (4, 1, 9, 0, False), (2, 2, 1, 1, True)]
# Of a plate 9 wide and 7 high, with a blade of 1: all four sorts, both ways.
GOOD = ("down", 4,
        ("across", 3, ("piece", 0, False, 1, 1), ("down", 1, REST, ("piece", 0, True, 0, 0))),
        ("across", 1, ("piece", 1, False, 0, 0), REST))
MEASURES = (pieces_of, rests_of, counts_of, worth_of, areas_of)


def forms(tree):
    return (tree, as_lists(tree), mixed(tree, random.Random(1)), mixed(tree, random.Random(2)))


class Ordinary(unittest.TestCase):
    def setUp(self):
        self.shop = Shop(1, KINDS)

    def test_all_sorts(self):
        for tree in forms(GOOD):
            self.assertEqual(pieces_of(self.shop, 9, 7, tree), [(0, False, 1, 1), (0, True, 2, 4), (1, False, 5, 0)])
            self.assertEqual(rests_of(self.shop, 9, 7, tree), [(0, 4, 1, 3), (5, 2, 4, 5)])
            self.assertEqual(counts_of(self.shop, 9, 7, tree), [2, 1, 0])
            self.assertEqual(worth_of(self.shop, 9, 7, tree), 19)
            self.assertEqual(areas_of(self.shop, 9, 7, tree), (16, 23, 6, 18))

    def test_kinds_of_what_is_told(self):
        for tree in forms(GOOD):
            pieces = pieces_of(self.shop, 9, 7, tree)
            self.assertIs(type(pieces), list)
            for piece in pieces:
                self.assertIs(type(piece), tuple)
                self.assertEqual([type(thing) for thing in piece], [int, bool, int, int])
            rests = rests_of(self.shop, 9, 7, tree)
            self.assertIs(type(rests), list)
            self.assertTrue(all(is_all_tuples(rest) and len(rest) == 4 for rest in rests))
            self.assertIs(type(counts_of(self.shop, 9, 7, tree)), list)
            self.assertIs(type(worth_of(self.shop, 9, 7, tree)), int)
            areas = areas_of(self.shop, 9, 7, tree)
            self.assertTrue(is_all_tuples(areas))
            self.assertEqual(len(areas), 4)

    def test_rest_alone(self):
        for rest in (REST, ["rest"]):
            self.assertEqual(pieces_of(self.shop, 5, 3, rest), [])
            self.assertEqual(rests_of(self.shop, 5, 3, rest), [(0, 0, 5, 3)])
            self.assertEqual(counts_of(self.shop, 5, 3, rest), [0, 0, 0])
            self.assertEqual(worth_of(self.shop, 5, 3, rest), 0)
            self.assertEqual(areas_of(self.shop, 5, 3, rest), (0, 15, 0, 0))

    def test_piece_alone(self):
        tree = ("piece", 0, True, 2, 1)
        self.assertEqual(pieces_of(self.shop, 5, 6, tree), [(0, True, 2, 1)])
        self.assertEqual(rests_of(self.shop, 5, 6, tree), [])
        self.assertEqual(counts_of(self.shop, 5, 6, tree), [1, 0, 0])
        self.assertEqual(worth_of(self.shop, 5, 6, tree), 5)
        self.assertEqual(areas_of(self.shop, 5, 6, tree), (6, 0, 24, 0))

    def test_cut_with_and_without_width(self):
        for blade in (0, 1, 2):
            shop = Shop(blade, KINDS)
            self.assertEqual(areas_of(shop, 6, 3, ("down", 2, REST, REST)), (0, 18 - 3 * blade, 0, 3 * blade))
            self.assertEqual(areas_of(shop, 6, 4, ("across", 1, REST, REST)), (0, 24 - 6 * blade, 0, 6 * blade))
            self.assertEqual(rests_of(shop, 6, 3, ("down", 2, REST, REST)),
                             [(0, 0, 2, 3), (2 + blade, 0, 4 - blade, 3)])
            self.assertEqual(rests_of(shop, 6, 4, ("across", 1, REST, REST)),
                             [(0, 0, 6, 1), (0, 1 + blade, 6, 3 - blade)])

    def test_sorted(self):
        square = ("piece", 2, False, 0, 0)
        wide = ("piece", 0, False, 0, 0)
        high = ("piece", 0, True, 0, 0)
        shop = Shop(0, KINDS)
        tree = ("down", 3, ("across", 3, ("across", 1, REST, square), wide),
                ("down", 3, ("across", 2, wide, high), ("across", 3, high, ("down", 1, REST, REST))))
        self.assertEqual(pieces_of(shop, 8, 6, tree), [(0, False, 0, 3), (0, False, 3, 0), (0, True, 3, 2),
                                                       (0, True, 6, 0), (2, False, 0, 1)])
        self.assertEqual(rests_of(shop, 8, 6, tree), [(0, 0, 3, 1), (6, 3, 1, 3), (7, 3, 1, 3)])
        self.assertEqual(counts_of(shop, 8, 6, tree), [4, 0, 1])
        self.assertEqual(worth_of(shop, 8, 6, tree), 21)

    def test_many_kinds(self):
        shop = Shop(0, [(1, 1, 10 ** kind, 0, False) for kind in range(8)])
        tree = comb(["down"] * 2, 1, ("piece", 5, False, 0, 0), ("piece", 7, False, 0, 0))
        self.assertEqual(counts_of(shop, 3, 1, tree), [0, 0, 0, 0, 0, 2, 0, 1])
        self.assertEqual(worth_of(shop, 3, 1, tree), 10200000)

    def test_worth_of_nothing(self):
        shop = Shop(0, [(1, 1, 0, 3, False)])
        tree = ("down", 1, ("piece", 0, False, 0, 0), ("piece", 0, False, 0, 0))
        self.assertEqual(worth_of(shop, 2, 1, tree), 0)
        self.assertEqual(counts_of(shop, 2, 1, tree), [2])


class CellByCell(unittest.TestCase):
    def check_cells(self, shop, wide, high, tree):
        plate = cells_of(0, 0, wide, high)
        painted = paint(shop, plate, tree)
        told = [("piece", cells_of(x, y, *sides_by_kind(shop, kind, turned)))
                for kind, turned, x, y in pieces_of(shop, wide, high, tree)]
        told += [("rest", cells_of(*rest)) for rest in rests_of(shop, wide, high, tree)]
        seen = [sort for sort in painted if sort[0] in ("piece", "rest")]
        self.assertCountEqual(told, seen)
        self.assertEqual(sum(len(cells) for _, cells in painted), wide * high)
        self.assertEqual(set().union(*[cells for _, cells in painted]), plate)
        areas = [sum(len(cells) for sort, cells in painted if sort == name)
                 for name in ("piece", "rest", "margin", "blade")]
        self.assertEqual(areas_of(shop, wide, high, tree), tuple(areas))

    def test_by_chance(self):
        chance = random.Random(4)
        for _ in range(600):
            shop = Shop(chance.randint(0, 3), KINDS[:chance.randint(1, 3)])
            wide, high = chance.randint(1, 12), chance.randint(1, 12)
            tree = chance_tree(chance, shop, wide, high, chance.randint(0, 12))
            self.check_cells(shop, wide, high, tree)
            pieces = pieces_of(shop, wide, high, tree)
            self.assertEqual(pieces, sorted(pieces))
            self.assertEqual(rests_of(shop, wide, high, tree), sorted(rests_of(shop, wide, high, tree)))
            self.assertIs(is_laying(shop, wide, high, pieces), True)
            counts = [len([piece for piece in pieces if piece[0] == kind]) for kind in range(len(shop.kinds()))]
            self.assertEqual(counts_of(shop, wide, high, tree), counts)
            self.assertEqual(worth_of(shop, wide, high, tree), sum(KINDS[piece[0]][2] for piece in pieces))
            listed = mixed(tree, chance)
            for measure in MEASURES:
                self.assertEqual(repr(measure(shop, wide, high, listed)), repr(measure(shop, wide, high, tree)))


class LargeOnes(unittest.TestCase):
    def test_sixty_figures(self):
        shop = Shop(SIXTY, [(SIXTY, SIXTY - 1, SIXTY, 1, True)])
        wide, high = SIXTY * 4 + 5, SIXTY + 1
        tree = ("down", SIXTY + 1, ("piece", 0, False, 1, 2), ("down", SIXTY - 1, ("piece", 0, True, 0, 1), REST))
        piece = SIXTY * (SIXTY - 1)
        areas = (2 * piece, 5 * high, (SIXTY + 1) * high - piece + (SIXTY - 1) * high - piece, 2 * SIXTY * high)
        for form in forms(tree):
            self.assertEqual(pieces_of(shop, wide, high, form), [(0, False, 1, 2), (0, True, SIXTY * 2 + 1, 1)])
            self.assertEqual(rests_of(shop, wide, high, form), [(SIXTY * 4, 0, 5, SIXTY + 1)])
            self.assertEqual(counts_of(shop, wide, high, form), [2])
            self.assertEqual(worth_of(shop, wide, high, form), 2 * SIXTY)
            self.assertEqual(areas_of(shop, wide, high, form), areas)
            self.assertEqual(sum(areas), wide * high)
            # Five columns less, and nothing is left for the third part.
            for measure in MEASURES:
                self.assertRaises(NoTree, measure, shop, wide - 5, high, form)
                measure(shop, wide - 4, high, form)

    def test_255_cuts(self):
        shop = Shop(0, [(1, 1, 3, 1, False)])
        tree = bush(7, 64, ("across", 1, ("piece", 0, False, 0, 0), REST))
        for form in (tree, as_lists(tree)):
            self.assertEqual(pieces_of(shop, 128, 2, form), [(0, False, x, 0) for x in range(128)])
            self.assertEqual(rests_of(shop, 128, 2, form), [(x, 1, 1, 1) for x in range(128)])
            self.assertEqual(counts_of(shop, 128, 2, form), [128])
            self.assertEqual(worth_of(shop, 128, 2, form), 384)
            self.assertEqual(areas_of(shop, 128, 2, form), (128, 128, 0, 0))

    def test_sixty_deep(self):
        shop = Shop(1, [(1, 1, 3, 1, False)])
        tree = comb(["down"] * 59, 1, ("piece", 0, False, 0, 0), REST)
        for form in (tree, as_lists(tree)):
            self.assertEqual(pieces_of(shop, 119, 1, form), [(0, False, 2 * n, 0) for n in range(59)])
            self.assertEqual(rests_of(shop, 119, 1, form), [(118, 0, 1, 1)])
            self.assertEqual(areas_of(shop, 119, 1, form), (59, 1, 0, 59))

    def test_somewhat_beyond(self):
        shop = Shop(0, [(1, 1, 1, 1, False)])
        tree = comb(["across"] * 300, 1, ("piece", 0, False, 0, 0), REST)
        self.assertEqual(worth_of(shop, 1, 301, tree), 300)
        self.assertEqual(areas_of(shop, 1, 301, tree), (300, 1, 0, 0))


class Promises(Refusing, unittest.TestCase):
    def setUp(self):
        self.shop = Shop(1, KINDS)

    def test_told_lists_are_the_askers_own(self):
        for measure in (pieces_of, rests_of, counts_of):
            told = measure(self.shop, 9, 7, GOOD)
            before = list(told)
            told.clear()
            self.assertEqual(measure(self.shop, 9, 7, GOOD), before)
            self.assertEqual(self.shop.kinds(), KINDS)

    def test_what_was_handed_in_stays(self):
        for tree in forms(GOOD):
            before = copy.deepcopy(tree)
            for measure in MEASURES:
                measure(self.shop, 9, 7, tree)
                self.assertEqual(repr(tree), repr(before))

    def test_later_changes_have_no_bearing(self):
        tree = as_lists(GOOD)
        told = pieces_of(self.shop, 9, 7, tree) + rests_of(self.shop, 9, 7, tree)
        before = repr(told)
        tree[2][2][3] = 0
        tree.clear()
        self.assertEqual(repr(told), before)

    def test_no_tree(self):
        wrong = odd_things() + odd_texts() + odd_rows() + [0, 1, True, False, HUGE, ("rest", 0), ("piece", 0, False, 0)]
        wrong += [("down", 8, REST, REST), ("down", 0, REST, REST), ("across", 6, REST, REST), ("down", 1, REST, None),
                  ("piece", 0, False, 7, 0), ("piece", 0, False, 0, 6), ("piece", 1, True, 0, 0)]
        for measure in MEASURES:
            for thing in wrong:
                self.refused(NoTree, measure, self.shop, 9, 7, thing)
                self.refused(NoTree, measure, self.shop, 9, 7, ["across", 1, REST, thing])
            self.refused(NoTree, measure, self.shop, 8, 7, GOOD)

    def test_no_plate_comes_first(self):
        for measure in MEASURES:
            for thing in (REST, GOOD, None, (), 7, "rest"):
                for wrong in no_wholes(1):
                    self.refused(NoPlate, measure, self.shop, wrong, 7, thing)
                    self.refused(NoPlate, measure, self.shop, 9, wrong, thing)


if __name__ == "__main__":
    unittest.main()
