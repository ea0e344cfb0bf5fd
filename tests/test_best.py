"""Points 12 and 4: the most worth of a plate, a tree that is worth it, and the table of all parts."""

import random
import unittest

from platecuts.best import best_of
from platecuts.errors import NoPlate, TooLarge
from platecuts.measures import worth_of
from platecuts.shops import Shop
from platecuts.trees import is_tree

from things import HUGE, SIXTY, Refusing, all_trees, is_all_tuples, most_worth, no_wholes, plain_worth

KINDS = [(3, 2, 7, 0, True), (4, 1, 4, 2, False), (2, 2, 3, 1, True), (5, 3, 18, 0, True)]


def chance_shop(chance, widest):
    kinds = [(chance.randint(1, 7), chance.randint(1, 7), chance.randint(0, 30), chance.randint(0, 3),
              chance.random() < 0.5) for _ in range(chance.randint(1, 8))]
    return Shop(chance.randint(0, widest), kinds)


class Looking(unittest.TestCase):
    def look(self, shop, wide, high):
        """What is told, when its kinds are right and the tree is worth what is told."""
        told = best_of(shop, wide, high)
        self.assertIs(type(told), tuple)
        worth, tree, table = told
        self.assertIs(type(worth), int)
        self.assertTrue(is_all_tuples(tree))
        self.assertIs(is_tree(shop, wide, high, tree), True)
        self.assertEqual(worth_of(shop, wide, high, tree), worth)
        self.assertIs(type(table), dict)
        self.assertEqual(sorted(table), [(a, b) for a in range(1, wide + 1) for b in range(1, high + 1)])
        self.assertTrue(all(is_all_tuples(part) for part in table))
        self.assertTrue(all(type(number) is int for number in table.values()))
        self.assertEqual(table[(wide, high)], worth)
        self.assertEqual(list(table.values())[-1], worth)
        return told


class MostWorth(Looking):
    def test_ordinary(self):
        shop = Shop(1, [(3, 2, 5, 4, True)])
        self.assertEqual(self.look(shop, 7, 2)[0], 10)
        self.assertEqual(self.look(shop, 6, 2)[0], 5)
        self.assertEqual(self.look(shop, 2, 3)[2],
                         {(1, 1): 0, (1, 2): 0, (1, 3): 0, (2, 1): 0, (2, 2): 0, (2, 3): 5})
        self.assertEqual(self.look(Shop(1, [(3, 2, 5, 4, False)]), 2, 3)[0], 0)
        self.assertEqual(self.look(shop, 1, 1), (0, ("rest",), {(1, 1): 0}))

    def test_all_parts_one_by_one(self):
        shops = [(Shop(0, [(1, 1, 1, 0, False), (2, 1, 3, 0, True)]), ((3, 2), (2, 3), (1, 5), (5, 1))),
                 (Shop(0, [(2, 2, 7, 0, False), (1, 2, 2, 0, False)]), ((3, 2), (2, 3), (4, 1), (2, 4))),
                 (Shop(1, [(1, 1, 1, 0, False), (3, 1, 5, 0, True)]), ((4, 4), (5, 3), (3, 5), (1, 7), (7, 1))),
                 (Shop(1, [(2, 1, 2, 0, True), (2, 2, 5, 0, True)]), ((5, 3), (4, 4), (7, 2), (2, 7))),
                 (Shop(2, [(1, 2, 3, 0, True), (1, 1, 1, 0, False)]), ((6, 4), (4, 6), (7, 3)))]
        for shop, plates in shops:
            for wide, high in plates:
                table = self.look(shop, wide, high)[2]
                for (a, b), number in table.items():
                    worths = [plain_worth(shop, tree) for tree in all_trees(shop, a, b)]
                    self.assertEqual(number, max(worths), (shop.kinds(), a, b))

    def test_tables_by_chance(self):
        chance = random.Random(12)
        for _ in range(40):
            shop = chance_shop(chance, 3)
            wide, high = chance.randint(1, 16), chance.randint(1, 16)
            most = most_worth(shop)
            table = self.look(shop, wide, high)[2]
            self.assertEqual(table, {(a, b): most(a, b) for a, b in table})

    def test_whole_plate(self):
        for blade in (0, 1, 2):
            shop = Shop(blade, KINDS)
            self.assertEqual(self.look(shop, 16, 16)[0], most_worth(shop)(16, 16))
        self.assertEqual(self.look(Shop(0, [(1, 1, 1, 0, False)]), 16, 16)[0], 256)
        self.assertEqual(self.look(Shop(1, [(1, 1, 1, 0, False)]), 16, 16)[0], 64)
        self.assertEqual(self.look(Shop(1, [(1, 1, 1, 0, False)]), 15, 1)[0], 8)
        self.assertEqual(self.look(Shop(0, [(16, 16, 3, 0, False)]), 16, 16)[0], 3)

    def test_blades(self):
        kinds = [(1, 1, 1, 0, False)]
        for blade in range(20):
            told = self.look(Shop(blade, kinds), 16, 1)
            self.assertEqual(told[0], 1 + 15 // (blade + 1), blade)
            self.assertEqual(self.look(Shop(blade, kinds), 1, 16)[0], 1 + 15 // (blade + 1), blade)
        self.assertEqual(self.look(Shop(HUGE, kinds), 16, 16)[0], 1)
        self.assertEqual(self.look(Shop(SIXTY, KINDS), 16, 16)[0], 18)

    def test_kinds_that_do_not_fit(self):
        shop = Shop(0, [(17, 1, 100, 0, True), (HUGE, HUGE, HUGE, 0, True), (2, 6, 5, 0, False)])
        self.assertEqual(self.look(shop, 16, 5)[0], 0)
        self.assertEqual(set(self.look(shop, 16, 5)[2].values()), {0})
        self.assertEqual(self.look(shop, 16, 6)[0], 40)

    def test_worth(self):
        self.assertEqual(self.look(Shop(0, [(1, 1, 0, 0, False)]), 5, 5)[0], 0)
        self.assertEqual(self.look(Shop(0, [(1, 1, HUGE, 0, False)]), 16, 16)[0], 256 * HUGE)
        shop = Shop(1, [(2, 3, SIXTY, 0, True), (5, 5, 4 * SIXTY + 1, 0, False)])
        self.assertEqual(self.look(shop, 5, 5)[0], 4 * SIXTY + 1)
        self.assertEqual(self.look(shop, 6, 5)[0], 4 * SIXTY + 1)
        self.assertEqual(self.look(shop, 8, 8)[0], most_worth(shop)(8, 8))

    def test_turns_of_the_kinds_matter(self):
        stays = Shop(0, [(3, 2, 1, 0, False)])
        turns = Shop(0, [(3, 2, 1, 0, True)])
        self.assertEqual(self.look(stays, 2, 3)[0], 0)
        self.assertEqual(self.look(turns, 2, 3)[0], 1)
        self.assertEqual(self.look(stays, 5, 6)[0], 3)
        self.assertEqual(self.look(turns, 5, 6)[0], 5)

    def test_how_many_are_wanted_has_no_bearing(self):
        for wanted in (0, 1, 5, HUGE):
            shop = Shop(1, [kind[:3] + (wanted,) + kind[4:] for kind in KINDS])
            self.assertEqual(self.look(shop, 13, 11)[0], best_of(Shop(1, KINDS), 13, 11)[0])
            self.assertEqual(self.look(shop, 13, 11)[2], best_of(Shop(1, KINDS), 13, 11)[2])

    def test_no_less_comes(self):
        chance = random.Random(13)
        for _ in range(30):
            shop = chance_shop(chance, 2)
            wide, high = chance.randint(1, 15), chance.randint(1, 15)
            worth, _, table = best_of(shop, wide, high)
            self.assertGreaterEqual(best_of(shop, wide + 1, high)[0], worth)
            self.assertGreaterEqual(best_of(shop, wide, high + 1)[0], worth)
            for (a, b), number in table.items():
                self.assertGreaterEqual(number, table.get((a - 1, b), 0))
                self.assertGreaterEqual(number, table.get((a, b - 1), 0))
            if len(shop.kinds()) < 8:
                more = Shop(shop.blade(), shop.kinds() + [(chance.randint(1, 7), chance.randint(1, 7), 9, 0, True)])
                self.assertGreaterEqual(best_of(more, wide, high)[0], worth)
            if shop.blade():
                self.assertGreaterEqual(best_of(Shop(shop.blade() - 1, shop.kinds()), wide, high)[0], worth)


class Promises(Refusing, Looking):
    def test_told_dicts_are_the_askers_own(self):
        shop = Shop(1, KINDS)
        first = self.look(shop, 9, 8)
        kept = dict(first[2])
        first[2].clear()
        again = self.look(shop, 9, 8)
        self.assertEqual(again[2], kept)
        self.assertEqual(again[:2], first[:2])
        again[2][(9, 8)] = 1
        self.assertEqual(self.look(shop, 9, 8), (first[0], first[1], kept))
        self.assertEqual(shop.kinds(), KINDS)

    def test_no_plate(self):
        shop = Shop(1, KINDS)
        for wrong in no_wholes(1):
            self.refused(NoPlate, best_of, shop, wrong, 5)
            self.refused(NoPlate, best_of, shop, 5, wrong)
            self.refused(NoPlate, best_of, shop, wrong, 17)
            self.refused(NoPlate, best_of, shop, 17, wrong)

    def test_too_large(self):
        shop = Shop(1, KINDS)
        for side in (17, 18, 256, SIXTY, HUGE):
            for other in (1, 16, side):
                self.refused(TooLarge, best_of, shop, side, other)
                self.refused(TooLarge, best_of, shop, other, side)
        self.look(shop, 16, 1)
        self.look(shop, 1, 16)


if __name__ == "__main__":
    unittest.main()
