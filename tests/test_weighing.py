"""Points 16 and 4: what kinds weigh by weights of a plate, its load, and the bounds by them."""

import copy
import random
import unittest

from platecuts.best import best_of
from platecuts.errors import NoPlate, NoWeights, TooLarge
from platecuts.fewest import fewest_of
from platecuts.loads import load_of
from platecuts.measures import counts_of, pieces_of, worth_of
from platecuts.shops import Shop
from platecuts.weighing import bears_worth, kind_weights, plate_load, plates_by_weights

from things import HUGE, SIXTY, Refusing, chance_tree, no_wholes, odd_rows, odd_texts, odd_things, sides_by_kind

FUNCTIONS = (kind_weights, plate_load, bears_worth, plates_by_weights)
U = [1, 2, 3, 5, 6, 8]
V = [2, 1, 4, 4, 7]


def shop_wanting(*wanted, blade=0):
    """Kinds that fit a plate 6 by 5 both ways, as they are, turned only, and as they must stay."""
    kinds = [(3, 2, 4, 0, True), (6, 1, 9, 0, True), (2, 6, 3, 0, True), (4, 4, 20, 0, False)]
    return Shop(blade, [kind[:3] + (many,) + kind[4:] for kind, many in zip(kinds, wanted)])


def by_the_words(shop, wide, high, u, v):
    """The kinds' weights once more."""
    told = []
    for number in range(len(shop.kinds())):
        weights = []
        for kind, turned in shop.lyings():
            a, b = sides_by_kind(shop, kind, turned)
            if kind == number and a <= wide and b <= high:
                weights.append(u[a - 1] * v[b - 1])
        told.append(min(weights) if weights else None)
    return told


def chance_weights(chance, many):
    sort = chance.randint(0, 3)
    if sort == 0:
        return list(range(1, many + 1))
    if sort == 1:
        return [chance.choice((0, 0, 1, 2)) for _ in range(many)]
    if sort == 2:
        return [chance.choice((SIXTY, HUGE, 0, 5)) for _ in range(many)]
    return [chance.randint(0, 30) for _ in range(many)]


def chance_shop(chance, most_side, most_wanted):
    kinds = [(chance.randint(1, most_side), chance.randint(1, most_side), chance.randint(0, 30),
              chance.randint(0, most_wanted), chance.random() < 0.5) for _ in range(chance.randint(1, 5))]
    return Shop(chance.randint(0, 2), kinds)


class Weights(unittest.TestCase):
    def test_ways_of_fitting(self):
        shop = shop_wanting(0, 0, 0, 0)
        # Both ways: 3 * 1 and 2 * 4; as it is only: 8 * 2; turned only: 8 * 1; it stays: 5 * 4.
        self.assertEqual(kind_weights(shop, 6, 5, U, V), [3, 16, 8, 20])
        self.assertEqual(kind_weights(shop, 5, 6, U[:5], V + [9]), [3, 9, 18, 20])
        self.assertEqual(kind_weights(shop, 2, 3, U[:2], V[:3]), [8, None, None, None])
        self.assertEqual(kind_weights(shop, 3, 2, U[:3], V[:2]), [3, None, None, None])
        self.assertEqual(kind_weights(shop, 2, 2, U[:2], V[:2]), [None, None, None, None])
        self.assertEqual(kind_weights(shop, 1, 1, [5], [7]), [None, None, None, None])
        self.assertEqual(kind_weights(shop, 4, 4, U[:4], V[:4]), [3, None, None, 20])
        self.assertEqual(kind_weights(shop, 4, 3, U[:4], V[:3]), [3, None, None, None])

    def test_the_less_of_both_ways(self):
        shop = Shop(0, [(1, 2, 0, 0, True), (2, 1, 0, 0, True), (1, 2, 0, 0, False), (2, 1, 0, 0, False)])
        self.assertEqual(kind_weights(shop, 2, 2, [3, 10], [1, 5]), [10, 10, 15, 10])
        self.assertEqual(kind_weights(shop, 2, 2, [1, 10], [1, 5]), [5, 5, 5, 10])
        self.assertEqual(kind_weights(shop, 2, 2, [0, 10], [1, 5]), [0, 0, 0, 10])
        self.assertEqual(kind_weights(shop, 2, 2, [0, 0], [0, 0]), [0, 0, 0, 0])

    def test_by_chance(self):
        chance = random.Random(22)
        for _ in range(400):
            shop = chance_shop(chance, 9, 3)
            wide, high = chance.randint(1, 12), chance.randint(1, 12)
            u, v = chance_weights(chance, wide), chance_weights(chance, high)
            expected = by_the_words(shop, wide, high, u, v)
            told = kind_weights(shop, wide, high, u, v)
            self.assertIs(type(told), list)
            self.assertEqual(told, expected)
            self.assertEqual(len(told), len(shop.kinds()))
            load = load_of(shop.blade(), u, wide)[0] * load_of(shop.blade(), v, high)[0]
            self.assertEqual(plate_load(shop, wide, high, u, v), load)
            self.assertIs(type(plate_load(shop, wide, high, u, v)), int)
            bearing = all(kind[2] <= weight for kind, weight in zip(shop.kinds(), expected) if weight is not None)
            self.assertIs(bears_worth(shop, wide, high, u, v), bearing)

    def test_sixty_by_sixty(self):
        u, v = list(range(1, 61)), [2] * 59 + [SIXTY]
        shop = Shop(3, [(60, 60, 1, 2, True), (60, 1, 1, 0, True), (1, 60, 1, 0, False), (61, 1, 0, 0, True)])
        self.assertEqual(kind_weights(shop, 60, 60, u, v), [60 * SIXTY, 120, SIXTY, None])
        self.assertEqual(plate_load(shop, 60, 60, u, v), 60 * SIXTY)
        self.assertEqual(plates_by_weights(shop, 60, 60, u, v), 2)
        self.assertEqual(plate_load(shop, 60, 1, u, [4]), 240)
        self.assertEqual(plate_load(shop, 1, 60, [4], u), 240)
        # 45 lengths of 1 with a blade of 3 do not fit 60; 15 do.
        self.assertEqual(plate_load(shop, 60, 60, [9] + [0] * 59, u), 15 * 9 * 60)

    def test_plate_load(self):
        # By U two lengths of 3 weigh 6, one of 6 weighs 8; by V five of 1 weigh 10, with a blade of 1 three weigh 6.
        for blade, load in ((0, 8 * 10), (1, 8 * 7), (2, 8 * 7), (5, 8 * 7), (HUGE, 8 * 7)):
            self.assertEqual(plate_load(shop_wanting(0, blade=blade), 6, 5, U, V), load)
        self.assertEqual(plate_load(shop_wanting(0), 2, 3, [4, 0], [0, 7, 1]), 8 * 7)
        self.assertEqual(plate_load(shop_wanting(0, blade=1), 3, 2, [4, 0, 0], [0, 7]), 8 * 7)
        self.assertEqual(plate_load(shop_wanting(0), 2, 2, [0, 0], [5, 5]), 0)
        self.assertEqual(plate_load(shop_wanting(0), 2, 2, [5, 5], [0, 0]), 0)
        self.assertEqual(plate_load(shop_wanting(0), 1, 1, [HUGE], [HUGE]), HUGE * HUGE)

    def test_bears_worth(self):
        for worth in range(10):
            shop = Shop(0, [(2, 1, worth, 5, True), (9, 9, HUGE, 5, True), (1, 1, 0, 0, False)])
            # Turned it weighs 5, as it is 10.
            self.assertIs(bears_worth(shop, 2, 2, [1, 10], [1, 5]), worth <= 5)
            self.assertIs(bears_worth(shop, 2, 1, [1, 7], [1]), worth <= 7)
            self.assertIs(bears_worth(shop, 2, 1, [0, 0], [0]), worth == 0)
            self.assertIs(bears_worth(Shop(0, [(2, 1, worth, 5, True)]), 1, 1, [0], [0]), True)
        shop = Shop(0, [(1, 1, 1, 0, False), (2, 1, 3, 0, False)])
        self.assertIs(bears_worth(shop, 2, 1, [1, 3], [1]), True)
        self.assertIs(bears_worth(shop, 2, 1, [0, 3], [1]), False)
        self.assertIs(bears_worth(shop, 2, 1, [1, 2], [1]), False)


class Plates(unittest.TestCase):
    def test_nothing_wanted(self):
        self.assertEqual(plates_by_weights(shop_wanting(0, 0, 0, 0), 6, 5, U, V), 0)
        self.assertEqual(plates_by_weights(shop_wanting(0, 0, 0, 0), 1, 1, [1], [1]), 0)
        self.assertIs(type(plates_by_weights(shop_wanting(0), 6, 5, U, V)), int)

    def test_a_kind_that_does_not_fit(self):
        for many in (1, 2, HUGE):
            self.assertIsNone(plates_by_weights(shop_wanting(0, 0, 0, many), 6, 3, U, V[:3]))
            self.assertIsNone(plates_by_weights(shop_wanting(5, 0, 0, many), 6, 3, U, V[:3]))
            self.assertIsNone(plates_by_weights(shop_wanting(many), 1, 1, [0], [0]))
            self.assertIsNone(plates_by_weights(shop_wanting(1, many), 3, 2, [0, 0, 0], [0, 0]))
        self.assertEqual(plates_by_weights(shop_wanting(1, 0, 0, 0), 6, 3, U, V[:3]), 1)

    def test_weighing_nothing(self):
        for many in (0, 1, HUGE):
            self.assertEqual(plates_by_weights(shop_wanting(many), 6, 5, [0] * 6, V), 0)
            self.assertEqual(plates_by_weights(shop_wanting(many), 6, 5, U, [0] * 5), 0)
            self.assertEqual(plates_by_weights(shop_wanting(many), 6, 5, [1, 1, 0, 1, 1, 1], V), 0)

    def test_just_enough_one_more_and_one_less(self):
        # The load is 6 by 4, a piece of 1 by 1 weighs 1.
        u, v = [1, 2, 3, 4, 5, 6], [1, 2, 3, 4]
        for loads in (1, 2, 3, 7, SIXTY, HUGE // 24):
            for more, plates in ((-1, loads), (0, loads), (1, loads + 1), (24, loads + 1), (25, loads + 2),
                                 (-23, loads), (-24, loads - 1)):
                shop = Shop(0, [(1, 1, 1, 24 * loads + more, False)])
                told = plates_by_weights(shop, 6, 4, u, v)
                self.assertEqual(told, plates, (loads, more))
                self.assertIs(type(told), int)

    def test_wanted_numbers_of_sixty_figures(self):
        for many in (SIXTY, HUGE, 10 ** 59, 10 ** 59 + 1):
            for load in (1, 2, 7, 59):
                shop = Shop(0, [(1, 1, 1, many, False)])
                whole, left = divmod(many, load)
                self.assertEqual(plates_by_weights(shop, load, 1, [1] * load, [1]), whole + (left > 0))
        shop = Shop(0, [(1, 1, 0, HUGE, False), (2, 1, 0, HUGE, False)])
        self.assertEqual(plates_by_weights(shop, 2, 1, [HUGE, 2 * HUGE], [HUGE]), (3 * HUGE + 1) // 2)

    def test_least_by_the_words(self):
        chance = random.Random(23)
        for _ in range(400):
            shop = chance_shop(chance, 6, 6)
            wide, high = chance.randint(1, 9), chance.randint(1, 9)
            u, v = chance_weights(chance, wide), chance_weights(chance, high)
            told = plates_by_weights(shop, wide, high, u, v)
            weights = by_the_words(shop, wide, high, u, v)
            wanted = [kind[3] for kind in shop.kinds()]
            if any(many > 0 and weight is None for many, weight in zip(wanted, weights)):
                self.assertIsNone(told)
            else:
                whole = sum(many * weight for many, weight in zip(wanted, weights) if many)
                load = plate_load(shop, wide, high, u, v)
                self.assertGreaterEqual(told * load, whole)
                self.assertTrue(told == 0 or (told - 1) * load < whole)


class Bounds(unittest.TestCase):
    def test_pieces_of_a_tree_weigh_no_more_than_the_load(self):
        chance = random.Random(24)
        bearing = 0
        for _ in range(500):
            shop = chance_shop(chance, 4, 3)
            wide, high = chance.randint(1, 20), chance.randint(1, 20)
            tree = chance_tree(chance, shop, wide, high, chance.randint(0, 30))
            u, v = chance_weights(chance, wide), chance_weights(chance, high)
            load = plate_load(shop, wide, high, u, v)
            pieces = 0
            for kind, turned, x, y in pieces_of(shop, wide, high, tree):
                a, b = sides_by_kind(shop, kind, turned)
                pieces += u[a - 1] * v[b - 1]
            self.assertLessEqual(pieces, load)
            weights = kind_weights(shop, wide, high, u, v)
            counts = counts_of(shop, wide, high, tree)
            self.assertLessEqual(sum(many * weight for many, weight in zip(counts, weights) if many), load)
            if bears_worth(shop, wide, high, u, v):
                bearing += 1
                self.assertLessEqual(worth_of(shop, wide, high, tree), load)
                if max(wide, high) <= 16:
                    self.assertLessEqual(best_of(shop, wide, high)[0], load)
        self.assertGreater(bearing, 50)

    def test_no_more_plates_by_weights_than_the_fewest(self):
        chance = random.Random(25)
        nones = just = 0
        for _ in range(250):
            kinds = [(chance.randint(1, 5), chance.randint(1, 5), 1, 0, chance.random() < 0.5)
                     for _ in range(chance.randint(1, 4))]
            wanted = [0] * len(kinds)
            for _ in range(chance.randint(0, 6)):
                wanted[chance.randrange(len(kinds))] += 1
            shop = Shop(chance.randint(0, 2), [kind[:3] + (many,) + kind[4:] for kind, many in zip(kinds, wanted)])
            wide, high = chance.randint(1, 8), chance.randint(1, 8)
            few = fewest_of(shop, wide, high)
            for _ in range(4):
                told = plates_by_weights(shop, wide, high, chance_weights(chance, wide), chance_weights(chance, high))
                self.assertEqual(told is None, few is None)
                if few is None:
                    nones += 1
                else:
                    self.assertLessEqual(told, few[0])
                    just += told == few[0] > 0
        self.assertGreater(nones, 10)
        self.assertGreater(just, 10)


class Promises(Refusing, unittest.TestCase):
    def setUp(self):
        self.shop = shop_wanting(1, 1, 1, 1, blade=1)

    def test_lists_and_tuples(self):
        for deed in FUNCTIONS:
            expected = deed(self.shop, 6, 5, U, V)
            for u, v in ((tuple(U), V), (U, tuple(V)), (tuple(U), tuple(V)), (list(U), list(V))):
                before = copy.deepcopy((u, v))
                self.assertEqual(deed(self.shop, 6, 5, u, v), expected)
                self.assertEqual((u, v), before)

    def test_told_lists_are_the_askers_own(self):
        told = kind_weights(self.shop, 6, 5, U, V)
        kept = list(told)
        told.clear()
        self.assertEqual(kind_weights(self.shop, 6, 5, U, V), kept)

    def test_no_plate_comes_first(self):
        for deed in FUNCTIONS:
            for wrong in no_wholes(1):
                self.refused(NoPlate, deed, self.shop, wrong, 5, U, V)
                self.refused(NoPlate, deed, self.shop, 6, wrong, U, V)
                self.refused(NoPlate, deed, self.shop, 61, wrong, None, None)
                self.refused(NoPlate, deed, self.shop, wrong, 61, None, None)

    def test_too_large_comes_next(self):
        for deed in FUNCTIONS:
            for side in (61, 62, SIXTY, HUGE):
                for weights in ([1] * 61, U, None, [], "u"):
                    self.refused(TooLarge, deed, self.shop, side, 5, weights, V)
                    self.refused(TooLarge, deed, self.shop, 6, side, U, weights)
                    self.refused(TooLarge, deed, self.shop, side, side, weights, weights)
            deed(self.shop, 60, 60, [1] * 60, [1] * 60)

    def test_no_weights(self):
        wrong = odd_things() + odd_texts() + odd_rows() + [0, 1, 6, True, None, HUGE, [1] * 61]
        wrong += [[1] * 5 + [thing] for thing in no_wholes(0)] + [[thing] + [1] * 5 for thing in no_wholes(0)]
        for deed in FUNCTIONS:
            for thing in wrong:
                self.refused(NoWeights, deed, self.shop, 6, 6, thing, [1] * 6)
                self.refused(NoWeights, deed, self.shop, 6, 6, [1] * 6, thing)
            for many in list(range(6)) + list(range(7, 12)) + [60, 61]:
                self.refused(NoWeights, deed, self.shop, 6, 6, [1] * many, [1] * 6)
                self.refused(NoWeights, deed, self.shop, 6, 6, [1] * 6, [1] * many)
            self.refused(NoWeights, deed, self.shop, 6, 5, V, U)
            self.refused(NoWeights, deed, self.shop, 6, 5, [], [])

    def test_no_weights_even_where_nothing_fits(self):
        shop = Shop(0, [(50, 50, 1, 1, True)])
        for deed in FUNCTIONS:
            self.refused(NoWeights, deed, shop, 2, 2, [1, -1], [1, 1])
            self.refused(NoWeights, deed, shop, 2, 2, [1, 1], [1, True])
            self.refused(NoWeights, deed, shop, 2, 2, [1, 1], [1])


if __name__ == "__main__":
    unittest.main()
