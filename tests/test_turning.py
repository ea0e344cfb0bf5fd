"""Points 14 and 4: the turns of trees, and the most worth with few of them."""

import copy
import random
import unittest

from platecuts.best import best_of
from platecuts.errors import NoNumber, NoPlate, NoTree, TooLarge
from platecuts.measures import worth_of
from platecuts.shops import Shop
from platecuts.trees import is_tree
from platecuts.turning import best_by_turns, turns_of

from things import (HUGE, SIXTY, Refusing, all_trees, as_lists, bush, chance_tree, comb, is_all_tuples, mixed,
                    no_wholes, odd_rows, odd_texts, odd_things, plain_turns, plain_worth)

REST = ("rest",)
KINDS = [(3, 2, 7, 0, True), (4, 1, 4, 2, False), (2, 2, 3, 1, True), (5, 3, 18, 0, True)]


class Turns(Refusing, unittest.TestCase):
    def told(self, expected, wide, high, tree, blade=1):
        shop = Shop(blade, KINDS)
        for form in (tree, as_lists(tree), mixed(tree, random.Random(1))):
            told = turns_of(shop, wide, high, form)
            self.assertEqual(told, expected, tree)
            self.assertIs(type(told), int)

    def test_without_cuts(self):
        self.told(0, 1, 1, REST)
        self.told(0, 5, 5, ("piece", 0, True, 1, 1))

    def test_one_way_only(self):
        self.told(0, 9, 9, ("down", 4, REST, REST))
        self.told(0, 9, 9, ("across", 4, REST, REST))
        self.told(0, 9, 9, ("down", 4, ("down", 1, REST, REST), ("down", 2, REST, REST)))
        self.told(0, 9, 9, ("across", 4, ("across", 1, REST, REST), ("across", 2, REST, REST)))
        for many in (1, 2, 30, 59):
            self.told(0, 2 * many + 1, 1, comb(["down"] * many, 1, REST, REST))
            self.told(0, 1, 2 * many + 1, comb(["across"] * many, 1, REST, REST))

    def test_both_ways(self):
        turned = {"down": "across", "across": "down"}
        for way in ("down", "across"):
            inner = (turned[way], 1, REST, REST)
            self.told(1, 9, 9, (way, 4, inner, REST))
            self.told(1, 9, 9, (way, 4, REST, inner))
            self.told(1, 9, 9, (way, 4, inner, inner))
            self.told(2, 9, 9, (turned[way], 4, REST, (way, 4, inner, REST)))
            self.told(1, 9, 9, (way, 4, (way, 1, REST, REST), (way, 1, REST, inner)))

    def test_the_greatest_of_all_ways(self):
        deep = ("across", 1, REST, ("down", 1, REST, ("across", 1, REST, REST)))
        self.told(3, 20, 20, ("down", 9, deep, REST))
        self.told(3, 20, 20, ("down", 9, REST, deep))
        self.told(3, 20, 20, ("down", 9, deep, ("across", 1, REST, REST)))
        self.told(3, 20, 20, ("down", 9, ("across", 1, REST, REST), deep))
        self.told(2, 20, 20, ("across", 9, deep, ("across", 1, REST, REST)))

    def test_sixty_deep(self):
        for many in (1, 2, 3, 28, 29):
            self.told(2 * many - 1, 80, 80, comb(["down", "across"] * many, 1, REST, REST))
            self.told(2 * many - 1, 80, 80, comb(["across", "down"] * many, 1, REST, REST))
        self.told(58, 80, 80, comb(["down", "across"] * 29 + ["down"], 1, REST, REST))
        self.told(29, 80, 80, comb((["down", "down", "across", "across"] * 15)[:59], 1, REST, REST))

    def test_255_cuts(self):
        tree = bush(7, 64, ("across", 1, REST, REST))
        self.told(1, 128, 2, tree, 0)

    def test_sixty_figures(self):
        tree = ("down", SIXTY, ("across", SIXTY, REST, REST), REST)
        self.told(1, HUGE, HUGE, tree, SIXTY)

    def test_by_chance(self):
        chance = random.Random(17)
        for _ in range(500):
            shop = Shop(chance.randint(0, 2), KINDS)
            wide, high = chance.randint(1, 25), chance.randint(1, 25)
            tree = chance_tree(chance, shop, wide, high, chance.randint(0, 30))
            self.told(plain_turns(tree), wide, high, tree, shop.blade())

    def test_refusals(self):
        shop = Shop(1, KINDS)
        for thing in odd_things() + odd_texts() + odd_rows() + [0, 1, True, ("down", 4, REST, None), ("rest", 0),
                                                               ("down", 8, REST, REST), ("piece", 0, 0, 0, 0)]:
            self.refused(NoTree, turns_of, shop, 9, 7, thing)
            self.refused(NoTree, turns_of, shop, 9, 7, ("across", 1, thing, REST))
        for thing in (REST, None, 7):
            for wrong in no_wholes(1):
                self.refused(NoPlate, turns_of, shop, wrong, 7, thing)
                self.refused(NoPlate, turns_of, shop, 9, wrong, thing)

    def test_what_was_handed_in_stays(self):
        tree = as_lists(("down", 4, ("across", 1, REST, ("piece", 0, True, 1, 1)), REST))
        before = copy.deepcopy(tree)
        self.assertEqual(turns_of(Shop(1, KINDS), 9, 7, tree), 1)
        self.assertEqual(repr(tree), repr(before))


class BestByTurns(Refusing, unittest.TestCase):
    def look(self, shop, wide, high, k):
        """The worth that is told, when the tree is worth it and has no more turns than told."""
        told = best_by_turns(shop, wide, high, k)
        self.assertIs(type(told), tuple)
        worth, tree = told
        self.assertIs(type(worth), int)
        self.assertTrue(is_all_tuples(tree))
        self.assertIs(is_tree(shop, wide, high, tree), True)
        self.assertEqual(worth_of(shop, wide, high, tree), worth)
        self.assertLessEqual(plain_turns(tree), k)
        return worth

    def test_few_turns(self):
        shop = Shop(0, [(1, 1, 1, 0, False)])
        self.assertEqual(self.look(shop, 3, 4, 0), 4)
        self.assertEqual(self.look(shop, 4, 3, 0), 4)
        self.assertEqual(self.look(shop, 3, 4, 1), 12)
        self.assertEqual(self.look(shop, 1, 7, 0), 7)
        self.assertEqual(self.look(shop, 7, 1, 0), 7)
        self.assertEqual(self.look(shop, 1, 1, 0), 1)
        self.assertEqual(self.look(Shop(0, [(2, 2, 1, 0, False)]), 1, 1, 0), 0)

    def test_a_turn_more_is_worth_more(self):
        # Squares of 8, 5, 3, 2, 1 and 1 fill the plate in a spiral: each but the first two asks for a turn more.
        shop = Shop(0, [(side, side, side ** 3, 0, False) for side in (8, 5, 3, 2, 1)])
        worths = [512 + 125, 512 + 125 + 27, 512 + 125 + 27 + 8, 512 + 125 + 27 + 8 + 1, 512 + 125 + 27 + 8 + 1 + 1]
        for k in range(9):
            self.assertEqual(self.look(shop, 13, 8, k), worths[min(k, 4)])
            self.assertEqual(self.look(shop, 8, 13, k), worths[min(k, 4)])

    def test_all_trees_one_by_one(self):
        shops = [(Shop(0, [(1, 1, 1, 0, False), (2, 1, 3, 0, True)]), ((3, 2), (2, 3), (1, 5), (5, 1), (2, 2))),
                 (Shop(0, [(2, 1, 1, 0, True)]), ((3, 3), (4, 2), (2, 4))),
                 (Shop(1, [(1, 1, 1, 0, False), (3, 1, 5, 0, True)]), ((4, 4), (5, 3), (3, 5), (7, 1))),
                 (Shop(1, [(3, 1, 5, 0, False), (1, 1, 2, 0, False), (1, 3, 5, 0, False)]), ((5, 5), (5, 4))),
                 (Shop(2, [(1, 2, 3, 0, True), (1, 1, 1, 0, False)]), ((6, 4), (4, 6), (7, 3)))]
        for shop, plates in shops:
            for wide, high in plates:
                most = [0] * 10
                for tree in all_trees(shop, wide, high):
                    turns = plain_turns(tree)
                    most[turns] = max(most[turns], plain_worth(shop, tree))
                for k in range(10):
                    self.assertEqual(self.look(shop, wide, high, k), max(most[:k + 1]), (shop.kinds(), wide, high, k))

    def test_no_less_with_a_turn_more(self):
        chance = random.Random(18)
        rises = 0
        for _ in range(12):
            kinds = [(chance.randint(1, 5), chance.randint(1, 5), chance.randint(0, 30), 0, chance.random() < 0.5)
                     for _ in range(chance.randint(1, 5))]
            shop = Shop(chance.randint(0, 2), kinds)
            wide, high = chance.choice(((12, 12), (9, 16), (16, 9), (11, 13), (7, 10), (16, 1), (1, 16), (5, 5)))
            worths = [self.look(shop, wide, high, k) for k in list(range(6)) + [29, 30, 31, 32]]
            self.assertEqual(worths, sorted(worths))
            self.assertEqual(worths[-4:], [worths[-1]] * 4)
            self.assertEqual(worths[-1], best_of(shop, wide, high)[0])
            rises += len(set(worths)) - 1
        self.assertGreater(rises, 5)

    def test_every_k(self):
        shop = Shop(1, KINDS)
        worths = [self.look(shop, 12, 12, k) for k in range(33)]
        self.assertEqual(worths, sorted(worths))
        self.assertEqual(worths[30], best_of(shop, 12, 12)[0])
        self.assertLess(worths[0], worths[1])

    def test_wider_plate_or_a_piece_more(self):
        chance = random.Random(19)
        for _ in range(40):
            kinds = [(chance.randint(1, 5), chance.randint(1, 5), chance.randint(0, 30), 0, chance.random() < 0.5)
                     for _ in range(chance.randint(1, 5))]
            shop = Shop(chance.randint(0, 2), kinds)
            wide, high, k = chance.randint(1, 8), chance.randint(1, 8), chance.randint(0, 3)
            worth = self.look(shop, wide, high, k)
            self.assertGreaterEqual(self.look(shop, wide + 1, high, k), worth)
            self.assertGreaterEqual(self.look(shop, wide, high + 1, k), worth)
            more = Shop(shop.blade(), kinds + [(chance.randint(1, 5), chance.randint(1, 5), 9, 0, True)])
            self.assertGreaterEqual(self.look(more, wide, high, k), worth)

    def test_both_first_ways_are_tried(self):
        tall = Shop(0, [(1, 6, 1, 0, False)])
        self.assertEqual(self.look(tall, 6, 6, 0), 6)
        flat = Shop(0, [(6, 1, 1, 0, False)])
        self.assertEqual(self.look(flat, 6, 6, 0), 6)

    def test_large_worth_and_blade(self):
        self.assertEqual(self.look(Shop(0, [(1, 1, HUGE, 0, False)]), 12, 12, 1), 144 * HUGE)
        self.assertEqual(self.look(Shop(HUGE, [(1, 1, 3, HUGE, False)]), 12, 12, 32), 3)
        self.assertEqual(self.look(Shop(0, [(HUGE, 1, 3, 0, True)]), 12, 12, 32), 0)
        self.assertEqual(self.look(Shop(11, [(1, 1, 3, 0, False)]), 12, 12, 32), 3)
        self.assertEqual(self.look(Shop(10, [(1, 1, 3, 0, False)]), 12, 12, 32), 12)

    def test_the_same_again(self):
        shop = Shop(1, KINDS)
        self.assertEqual(best_by_turns(shop, 9, 9, 2), best_by_turns(shop, 9, 9, 2))
        self.assertEqual(shop.kinds(), KINDS)

    def test_no_plate_then_too_large_then_no_number(self):
        shop = Shop(1, KINDS)
        numbers = no_wholes(0) + [33, 34, SIXTY, HUGE]
        for k in numbers:
            self.refused(NoNumber, best_by_turns, shop, 5, 5, k)
            self.refused(TooLarge, best_by_turns, shop, 17, 5, k)
            self.refused(TooLarge, best_by_turns, shop, 5, 17, k)
            self.refused(NoPlate, best_by_turns, shop, 0, 17, k)
        for k in (0, 32, 33, None):
            for wrong in no_wholes(1):
                self.refused(NoPlate, best_by_turns, shop, wrong, 5, k)
                self.refused(NoPlate, best_by_turns, shop, 5, wrong, k)
                self.refused(NoPlate, best_by_turns, shop, 17, wrong, k)
            for side in (17, SIXTY, HUGE):
                self.refused(TooLarge, best_by_turns, shop, side, 1, k)
                self.refused(TooLarge, best_by_turns, shop, 1, side, k)
        for k in (33, -1, True, None):
            self.refused(NoNumber, best_by_turns, shop, 16, 16, k)


if __name__ == "__main__":
    unittest.main()
