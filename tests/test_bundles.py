"""Point 17: bundles, and the greatest ones that each part bears."""

import itertools
import random
import unittest

from platecuts.bundles import greatest_bundles
from platecuts.errors import NoPlate, TooLarge
from platecuts.shops import Shop

from things import (HUGE, SIXTY, Refusing, all_trees, borne_bundles, chance_wanting, no_wholes, none_lesser)


def plain_counts(shop, tree):
    if tree[0] == "rest":
        return (0,) * len(shop.kinds())
    if tree[0] == "piece":
        return tuple(int(number == tree[1]) for number in range(len(shop.kinds())))
    return tuple(map(sum, zip(plain_counts(shop, tree[2]), plain_counts(shop, tree[3]))))


def by_all_trees(shop, wide, high):
    """The greatest bundles of a part, all its trees gone through one by one."""
    wanted = [kind[3] for kind in shop.kinds()]
    counts = {plain_counts(shop, tree) for tree in all_trees(shop, wide, high)}
    return none_lesser({bundle for bundle in counts if all(few <= most for few, most in zip(bundle, wanted))})


class Looking(Refusing, unittest.TestCase):
    def look(self, shop, wide, high):
        """The dict that is told, when it is of the form that is told."""
        told = greatest_bundles(shop, wide, high)
        self.assertIs(type(told), dict)
        parts = [(a, b) for a in range(1, wide + 1) for b in range(1, high + 1)]
        self.assertEqual(sorted(told), parts)
        wanted = [kind[3] for kind in shop.kinds()]
        for part, bundles in told.items():
            self.assertIs(type(part), tuple)
            self.assertEqual([type(side) for side in part], [int, int])
            self.assertIs(type(bundles), list)
            self.assertEqual(bundles, sorted(set(bundles)))
            self.assertGreater(len(bundles), 0)
            for bundle in bundles:
                self.assertIs(type(bundle), tuple)
                self.assertEqual([type(many) for many in bundle], [int] * len(wanted))
                self.assertTrue(all(0 <= many <= most for many, most in zip(bundle, wanted)))
            self.assertEqual(none_lesser(bundles), bundles)
        return told


class Bundles(Looking):
    def test_known_ones(self):
        shop = Shop(0, [(2, 1, 5, 2, False), (1, 1, 1, 3, False)])
        told = self.look(shop, 2, 2)
        self.assertEqual(told[(1, 1)], [(0, 1)])
        self.assertEqual(told[(1, 2)], [(0, 2)])
        self.assertEqual(told[(2, 1)], [(0, 2), (1, 0)])
        self.assertEqual(told[(2, 2)], [(0, 3), (1, 2), (2, 0)])
        told = self.look(Shop(1, [(2, 1, 5, 2, False), (1, 1, 1, 3, False)]), 3, 3)
        self.assertEqual(told[(2, 2)], [(0, 1), (1, 0)])
        self.assertEqual(told[(3, 3)], [(0, 3), (1, 2), (2, 0)])

    def test_not_more_than_is_wanted(self):
        for many in range(7):
            told = self.look(Shop(0, [(1, 1, 1, many, False)]), 8, 8)
            for (a, b), bundles in told.items():
                self.assertEqual(bundles, [(min(many, a * b),)])

    def test_no_piece_is_borne(self):
        shop = Shop(0, [(9, 1, 1, 2, True), (3, 2, 1, 1, False)])
        told = self.look(shop, 8, 8)
        for (a, b), bundles in told.items():
            self.assertEqual(bundles, [(0, int(a >= 3 and b >= 2))])
        self.assertEqual(self.look(Shop(0, [(HUGE, HUGE, 1, 6, True)]), 1, 1), {(1, 1): [(0,)]})

    def test_nothing_wanted(self):
        told = self.look(Shop(0, [(1, 1, 5, 0, True), (2, 1, 7, 0, True), (1, 2, HUGE, 0, False)]), 8, 8)
        self.assertEqual(set(map(tuple, told.values())), {((0, 0, 0),)})

    def test_turned_or_not(self):
        self.assertEqual(self.look(Shop(0, [(2, 1, 1, 2, True)]), 1, 4)[(1, 4)], [(2,)])
        self.assertEqual(self.look(Shop(0, [(2, 1, 1, 2, False)]), 1, 4)[(1, 4)], [(0,)])

    def test_two_alike(self):
        told = self.look(Shop(0, [(1, 1, 1, 1, False), (1, 1, 1, 1, False)]), 2, 1)
        self.assertEqual(told, {(1, 1): [(0, 1), (1, 0)], (2, 1): [(1, 1)]})

    def test_pieces_that_lie_round_about_are_not_borne(self):
        # Four of 3 by 2 lie round a cell of a plate 5 by 5, but no cut parts them.
        shop = Shop(0, [(3, 2, 1, 4, True)])
        self.assertEqual(self.look(shop, 5, 5)[(5, 5)], [(3,)])

    def test_all_trees_one_by_one(self):
        shops = [(Shop(0, [(1, 1, 1, 3, False), (2, 1, 3, 2, True)]), ((3, 2), (2, 3), (1, 5), (5, 1))),
                 (Shop(0, [(2, 1, 1, 4, True), (1, 2, 1, 0, False)]), ((3, 2), (2, 3))),
                 (Shop(0, [(2, 1, 1, 4, True)]), ((3, 3), (4, 2))),
                 (Shop(0, [(1, 1, 1, 1, False), (1, 1, 1, 1, False), (1, 2, 1, 2, False)]), ((2, 2), (4, 1))),
                 (Shop(1, [(1, 1, 1, 4, False), (3, 1, 5, 2, True)]), ((4, 4), (5, 3), (3, 5), (7, 1))),
                 (Shop(1, [(3, 1, 5, 2, False), (1, 1, 2, 3, False), (1, 3, 5, 1, False)]), ((5, 4), (4, 5))),
                 (Shop(2, [(1, 2, 3, 3, True), (1, 1, 1, 3, False)]), ((6, 4), (4, 6), (7, 3)))]
        for shop, plates in shops:
            known = {}
            for wide, high in plates:
                for (a, b), bundles in self.look(shop, wide, high).items():
                    if (a, b) not in known:
                        known[(a, b)] = by_all_trees(shop, a, b)
                    self.assertEqual(bundles, known[(a, b)], (shop.kinds(), a, b))

    def test_by_chance(self):
        chance = random.Random(26)
        several = 0
        for _ in range(60):
            shop = chance_wanting(chance, 5, 6)
            wide, high = chance.randint(1, 8), chance.randint(1, 8)
            borne = borne_bundles(shop)
            for (a, b), bundles in self.look(shop, wide, high).items():
                self.assertEqual(bundles, none_lesser(borne(a, b)))
                several += len(bundles) > 1
        self.assertGreater(several, 200)

    def test_largest(self):
        for kinds in ([(1, 1, 1, 1, False)] * 6 + [(1, 1, 1, 0, False)] * 2, [(2, 3, 1, 1, True)] * 6,
                      [(4, 3, 1, 1, True)] * 6, [(5, 3, 1, 3, True), (3, 3, 1, 3, True)]):
            for blade in (0, 1):
                shop = Shop(blade, kinds)
                told = self.look(shop, 8, 8)
                borne = borne_bundles(shop)
                for part in ((8, 8), (7, 8), (8, 3), (2, 7)):
                    self.assertEqual(told[part], none_lesser(borne(*part)))

    def test_blades(self):
        for blade in (7, 8, HUGE):
            told = self.look(Shop(blade, [(2, 1, 1, 3, True), (1, 1, 1, 3, True)]), 8, 8)
            self.assertEqual(told[(8, 8)], [(0, 1), (1, 0)])
        self.assertEqual(self.look(Shop(6, [(1, 1, 1, 6, True)]), 8, 8)[(8, 8)], [(4,)])


class Promises(Looking):
    def test_told_dicts_and_lists_are_the_askers_own(self):
        shop = Shop(0, [(2, 1, 5, 2, False), (1, 1, 1, 3, False)])
        first = self.look(shop, 3, 3)
        kept = {part: list(bundles) for part, bundles in first.items()}
        for bundles in first.values():
            bundles.clear()
        self.assertEqual(self.look(shop, 3, 3), kept)
        first.clear()
        again = self.look(shop, 3, 3)
        self.assertEqual(again, kept)
        # No list stands for two parts.
        for one, other in itertools.combinations(again.values(), 2):
            self.assertIsNot(one, other)

    def test_no_plate_comes_first(self):
        for many in (2, 7):
            shop = Shop(0, [(1, 1, 1, many, False)])
            for wrong in no_wholes(1):
                self.refused(NoPlate, greatest_bundles, shop, wrong, 5)
                self.refused(NoPlate, greatest_bundles, shop, 5, wrong)
                self.refused(NoPlate, greatest_bundles, shop, wrong, 9)
                self.refused(NoPlate, greatest_bundles, shop, 9, wrong)

    def test_too_large(self):
        shop = Shop(0, [(1, 1, 1, 6, False)])
        for side in (9, 10, 16, 17, SIXTY, HUGE):
            for other in (1, 8, side):
                self.refused(TooLarge, greatest_bundles, shop, side, other)
                self.refused(TooLarge, greatest_bundles, shop, other, side)
        self.look(shop, 8, 1)
        self.look(shop, 1, 8)

    def test_too_many_wanted(self):
        for wanted in ((7,), (HUGE,), (6, 1), (1, 6), (3, 4), (1,) * 7, (1,) * 8, (0, 0, 7), (SIXTY, 0), (2, 2, 2, 1)):
            for side in (1, 9):
                # Kinds that do not fit count, too.
                shop = Shop(0, [(1 + side, side, 1, many, False) for many in wanted])
                self.refused(TooLarge, greatest_bundles, shop, 1, 1)
                self.refused(TooLarge, greatest_bundles, shop, 8, 8)
        for wanted in ((6,), (3, 3), (5, 1), (1,) * 6, (1, 0, 1, 1, 0, 1, 1, 1), (0, 6)):
            self.look(Shop(0, [(2, 2, 1, many, False) for many in wanted]), 4, 4)


if __name__ == "__main__":
    unittest.main()
