"""Points 18 and 4: how few plates bear all that is wanted."""

import itertools
import random
import unittest

from platecuts.bundles import greatest_bundles
from platecuts.errors import NoPlate, TooLarge
from platecuts.fewest import fewest_of
from platecuts.measures import counts_of
from platecuts.shops import Shop
from platecuts.trees import is_tree

from things import (HUGE, SIXTY, Refusing, borne_bundles, chance_wanting, is_all_tuples, no_wholes, sides_by_kind)


def wanted_of(shop):
    return [kind[3] for kind in shop.kinds()]


def comes_to(lot, wanted):
    """Whether bundles come together to no less than what is wanted."""
    return all(sum(bundle[kind] for bundle in lot) >= many for kind, many in enumerate(wanted))


def least_lot(bundles, wanted):
    """How few of the bundles come to what is wanted, all lots gone through."""
    for many in range(7):
        if any(comes_to(lot, wanted) for lot in itertools.combinations_with_replacement(sorted(bundles), many)):
            return many
    return None


class Looking(Refusing, unittest.TestCase):
    def look(self, shop, wide, high):
        """The number that is told, when the trees are as many and have together just the wanted pieces."""
        told = fewest_of(shop, wide, high)
        if told is None:
            return None
        self.assertIs(type(told), tuple)
        many, trees = told
        self.assertIs(type(many), int)
        self.assertIs(type(trees), list)
        self.assertEqual(len(trees), many)
        together = [0] * len(shop.kinds())
        for tree in trees:
            self.assertTrue(is_all_tuples(tree))
            self.assertIs(is_tree(shop, wide, high, tree), True)
            together = [some + more for some, more in zip(together, counts_of(shop, wide, high, tree))]
        self.assertEqual(together, wanted_of(shop))
        return many


class Fewest(Looking):
    def test_nothing_wanted(self):
        for kinds in ([(1, 1, 5, 0, False)], [(9, 9, 1, 0, True), (1, 1, 1, 0, True)], [(HUGE, 1, 1, 0, False)]):
            self.assertEqual(fewest_of(Shop(1, kinds), 4, 3), (0, []))
            self.assertEqual(fewest_of(Shop(1, kinds), 1, 1), (0, []))

    def test_a_kind_that_does_not_fit(self):
        self.assertIsNone(fewest_of(Shop(0, [(5, 1, 1, 1, False)]), 4, 8))
        self.assertIsNone(fewest_of(Shop(0, [(5, 1, 1, 1, False), (1, 1, 1, 5, False)]), 4, 8))
        self.assertIsNone(fewest_of(Shop(0, [(1, 1, 1, 5, False), (9, 9, 1, 1, True)]), 8, 8))
        self.assertIsNone(fewest_of(Shop(0, [(1, 5, 1, 1, False)]), 8, 4))
        self.assertEqual(self.look(Shop(0, [(5, 1, 1, 1, True)]), 4, 8), 1)
        self.assertEqual(self.look(Shop(0, [(5, 1, 1, 0, False), (1, 1, 1, 5, False)]), 4, 8), 1)

    def test_one_plate_for_each_piece(self):
        for many in range(7):
            self.assertEqual(self.look(Shop(0, [(3, 3, 1, many, False)]), 5, 5), many)
            self.assertEqual(self.look(Shop(HUGE, [(1, 1, 1, many, False)]), 8, 8), many)

    def test_known_ones(self):
        for many, plates in ((1, 1), (2, 1), (3, 1), (4, 1), (5, 2), (6, 2)):
            self.assertEqual(self.look(Shop(0, [(2, 2, 1, many, False)]), 4, 4), plates)
            self.assertEqual(self.look(Shop(1, [(2, 2, 1, many, False)]), 5, 5), plates)
            self.assertEqual(self.look(Shop(1, [(2, 2, 1, many, False)]), 4, 4), many)
        # Round about four would lie on one plate, by cuts three do.
        self.assertEqual(self.look(Shop(0, [(3, 2, 1, 3, True)]), 5, 5), 1)
        self.assertEqual(self.look(Shop(0, [(3, 2, 1, 4, True)]), 5, 5), 2)

    def test_not_the_plate_that_bears_most_first(self):
        # A plate bears two of kind 0 with one of kind 1 beside them, or other lots; all lots have to be tried.
        shop = Shop(0, [(4, 2, 1, 3, False), (2, 4, 1, 3, False)])
        self.assertEqual(self.look(shop, 4, 4), 4)
        shop = Shop(0, [(3, 1, 1, 2, False), (2, 1, 1, 2, False), (4, 1, 1, 1, False), (1, 1, 1, 1, False)])
        self.assertEqual(self.look(shop, 5, 1), 3)
        self.assertEqual(self.look(shop, 8, 1), 2)

    def test_all_lots_of_greatest_bundles(self):
        chance = random.Random(27)
        seen = {}
        for _ in range(300):
            shop = chance_wanting(chance, 6, 6)
            wide, high = chance.randint(3, 8), chance.randint(3, 8)
            told = self.look(shop, wide, high)
            fitting = {kind for kind, turned in shop.lyings() if sides_by_kind(shop, kind, turned)[0] <= wide
                       and sides_by_kind(shop, kind, turned)[1] <= high}
            if any(many and kind not in fitting for kind, many in enumerate(wanted_of(shop))):
                self.assertIsNone(told)
            else:
                bundles = greatest_bundles(shop, wide, high)[(wide, high)]
                self.assertEqual(told, least_lot(bundles, wanted_of(shop)))
            seen[told] = seen.get(told, 0) + 1
        for many in (None, 0, 1, 2, 3):
            self.assertGreater(seen[many], 5, seen)

    def test_all_lots_of_all_bundles(self):
        chance = random.Random(28)
        for _ in range(100):
            shop = chance_wanting(chance, 4, 4)
            wide, high = chance.randint(3, 6), chance.randint(3, 6)
            told = self.look(shop, wide, high)
            if told is not None:
                self.assertEqual(told, least_lot(borne_bundles(shop)(wide, high), wanted_of(shop)))

    def test_no_more_on_a_wider_plate_or_with_one_fewer_wanted(self):
        chance = random.Random(29)
        for _ in range(100):
            shop = chance_wanting(chance, 4, 6)
            wide, high = chance.randint(1, 7), chance.randint(1, 7)
            told = self.look(shop, wide, high)
            if told is not None:
                self.assertLessEqual(self.look(shop, wide + 1, high), told)
                self.assertLessEqual(self.look(shop, wide, high + 1), told)
                kinds = shop.kinds()
                for at, kind in enumerate(kinds):
                    if kind[3]:
                        fewer = kinds[:at] + [kind[:3] + (kind[3] - 1,) + kind[4:]] + kinds[at + 1:]
                        self.assertLessEqual(self.look(Shop(shop.blade(), fewer), wide, high), told)

    def test_largest(self):
        for kinds in ([(1, 1, 1, 1, False)] * 6, [(2, 3, 1, 1, True)] * 6, [(4, 3, 1, 1, True)] * 6,
                      [(5, 3, 1, 3, True), (3, 3, 1, 3, True)]):
            shop = Shop(1, kinds)
            told = self.look(shop, 8, 8)
            self.assertEqual(told, least_lot(greatest_bundles(shop, 8, 8)[(8, 8)], wanted_of(shop)))


class Promises(Looking):
    def test_told_lists_are_the_askers_own(self):
        for kinds in ([(2, 2, 1, 6, False)], [(2, 2, 1, 0, False)]):
            shop = Shop(0, kinds)
            many, trees = fewest_of(shop, 4, 4)
            kept = list(trees)
            trees.append("more")
            self.assertEqual(fewest_of(shop, 4, 4), (many, kept))
            trees.clear()
            self.assertEqual(fewest_of(shop, 4, 4), (many, kept))
            self.assertEqual(shop.kinds(), kinds)

    def test_no_plate_comes_first(self):
        for kind in ((1, 1, 1, 0, False), (1, 1, 1, 7, False), (9, 9, 1, 1, False)):
            for wrong in no_wholes(1):
                self.refused(NoPlate, fewest_of, Shop(0, [kind]), wrong, 5)
                self.refused(NoPlate, fewest_of, Shop(0, [kind]), 5, wrong)
                self.refused(NoPlate, fewest_of, Shop(0, [kind]), 9, wrong)
                self.refused(NoPlate, fewest_of, Shop(0, [kind]), wrong, 9)

    def test_too_large_comes_next(self):
        for kind in ((1, 1, 1, 0, False), (1, 1, 1, 6, False), (HUGE, HUGE, 1, 1, False)):
            for side in (9, 16, SIXTY, HUGE):
                self.refused(TooLarge, fewest_of, Shop(0, [kind]), side, 1)
                self.refused(TooLarge, fewest_of, Shop(0, [kind]), 8, side)
        for wanted in ((7,), (6, 1), (3, 4), (HUGE, 0), (1,) * 8):
            for side in (1, 9):
                shop = Shop(0, [(side, side, 1, many, False) for many in wanted])
                self.refused(TooLarge, fewest_of, shop, 8, 8)
                self.refused(TooLarge, fewest_of, shop, 1, 1)


if __name__ == "__main__":
    unittest.main()
