"""Points 13 and 4: tables of a plate, and whether they bear the shop."""

import collections
import copy
import random
import types
import unittest
from fractions import Fraction

from platecuts.best import best_of
from platecuts.errors import NoPlate, NoTable, TooLarge
from platecuts.measures import worth_of
from platecuts.shops import Shop
from platecuts.tables import bears

from things import (HUGE, SIXTY, Refusing, chance_tree, no_wholes, odd_rows, odd_texts, odd_things, sides_by_kind)

KINDS = [(3, 2, 7, 0, True), (4, 1, 4, 2, False), (2, 2, 3, 1, True), (5, 3, 18, 0, True)]


def keys(wide, high):
    return [(a, b) for a in range(1, wide + 1) for b in range(1, high + 1)]


def by_the_words(shop, wide, high, table):
    """Point 13 once more: all that no number may be less than."""
    for a, b in keys(wide, high):
        least = [shop.kinds()[kind][2] for kind, turned in shop.lyings()
                 if sides_by_kind(shop, kind, turned)[0] <= a and sides_by_kind(shop, kind, turned)[1] <= b]
        for first, second in ((p, q) for p in range(1, a) for q in range(1, a) if p + q + shop.blade() == a):
            least.append(table[(first, b)] + table[(second, b)])
        for first, second in ((p, q) for p in range(1, b) for q in range(1, b) if p + q + shop.blade() == b):
            least.append(table[(a, first)] + table[(a, second)])
        if least and table[(a, b)] < max(least):
            return False
    return True


class Bearing(unittest.TestCase):
    def test_table_of_best(self):
        chance = random.Random(14)
        for _ in range(30):
            shop = Shop(chance.randint(0, 3), chance.sample(KINDS, chance.randint(1, 4)))
            wide, high = chance.randint(1, 16), chance.randint(1, 16)
            self.assertIs(bears(shop, wide, high, best_of(shop, wide, high)[2]), True)

    def test_one_more_and_one_less_at_each_part(self):
        for blade in (0, 1, 2):
            shop = Shop(blade, KINDS)
            table = best_of(shop, 7, 6)[2]
            for part in keys(7, 6):
                for step in (-7, -1, 1, 2, 50):
                    changed = dict(table)
                    changed[part] += step
                    if changed[part] >= 0:
                        expected = by_the_words(shop, 7, 6, changed)
                        self.assertIs(bears(shop, 7, 6, changed), expected, (blade, part, step))
                        if step < 0:
                            # The most worth of a part is that of a lying or a cut: no number can be less.
                            self.assertIs(bears(shop, 7, 6, changed), False)
            changed = dict(table)
            changed[(7, 6)] += 1
            self.assertIs(bears(shop, 7, 6, changed), True)

    def test_lyings(self):
        shop = Shop(9, [(3, 2, 5, 0, True)])
        table = {part: 5 if min(part) >= 2 and max(part) >= 3 else 0 for part in keys(4, 4)}
        self.assertIs(bears(shop, 4, 4, table), True)
        for part in keys(4, 4):
            if table[part]:
                self.assertIs(bears(shop, 4, 4, {**table, part: 4}), False, part)
                self.assertIs(bears(shop, 4, 4, {**table, part: 0}), False, part)
            self.assertIs(bears(shop, 4, 4, {**table, part: 6}), True, part)
        stays = Shop(9, [(3, 2, 5, 0, False)])
        self.assertIs(bears(stays, 4, 4, {**table, (2, 3): 0, (2, 4): 0}), True)
        self.assertIs(bears(stays, 4, 4, {**table, (3, 2): 0}), False)

    def test_cuts(self):
        # Nothing of this kind fits: the cuts alone have a bearing.
        for blade in (0, 1, 2, 3):
            shop = Shop(blade, [(50, 50, 5, 0, False)])
            for wide, high, part in ((5, 1, lambda side: (side, 1)), (1, 5, lambda side: (1, side))):
                table = {key: 0 for key in keys(wide, high)}
                self.assertIs(bears(shop, wide, high, table), True)
                for ahead in range(1, 5):
                    for behind in range(1, 5):
                        whole = ahead + behind + blade
                        if whole <= 5:
                            numbers = {**table}
                            numbers[part(ahead)] += 2
                            numbers[part(behind)] += 3
                            numbers = {key: max(numbers[key], 5) if sum(key) > whole else numbers[key] for key in table}
                            numbers[part(whole)] = 0
                            expected = by_the_words(shop, wide, high, numbers)
                            self.assertIs(expected, False)
                            self.assertIs(bears(shop, wide, high, numbers), False)

    def test_tables_by_chance(self):
        chance = random.Random(15)
        heads = {True: 0, False: 0}
        for _ in range(1500):
            shop = Shop(chance.randint(0, 2), [(2, 1, chance.randint(0, 3), 0, True)])
            wide, high = chance.randint(1, 4), chance.randint(1, 4)
            table = {(a, b): a * b + chance.randint(0, 2) for a, b in keys(wide, high)}
            expected = by_the_words(shop, wide, high, table)
            heads[expected] += 1
            self.assertIs(bears(shop, wide, high, table), expected, (shop.kinds(), wide, high, table))
        self.assertGreater(min(heads.values()), 200)

    def test_no_tree_is_worth_more(self):
        chance = random.Random(16)
        for _ in range(200):
            shop = Shop(chance.randint(0, 2), KINDS)
            wide, high = chance.randint(1, 16), chance.randint(1, 16)
            table = best_of(shop, wide, high)[2]
            tree = chance_tree(chance, shop, wide, high, chance.randint(0, 20))
            self.assertLessEqual(worth_of(shop, wide, high, tree), table[(wide, high)])

    def test_sixty_figures(self):
        shop = Shop(0, [(1, 1, SIXTY, 0, False)])
        table = {(a, b): a * b * SIXTY for a, b in keys(16, 16)}
        self.assertIs(bears(shop, 16, 16, table), True)
        for part in keys(16, 16):
            self.assertIs(bears(shop, 16, 16, {**table, part: table[part] - 1}), False)
        self.assertIs(bears(Shop(HUGE, [(HUGE, HUGE, HUGE, HUGE, True)]), 16, 16, {part: 0 for part in table}), True)
        self.assertIs(bears(shop, 1, 1, {(1, 1): HUGE}), True)

    def test_order_of_the_keys_has_no_bearing(self):
        shop = Shop(1, KINDS)
        table = best_of(shop, 6, 5)[2]
        for order in (reversed(list(table)), sorted(table, key=lambda part: (part[1], -part[0]))):
            self.assertIs(bears(shop, 6, 5, {part: table[part] for part in order}), True)


class NoTables(Refusing, unittest.TestCase):
    def setUp(self):
        self.shop = Shop(1, KINDS)
        self.table = best_of(self.shop, 4, 3)[2]

    def test_keys_missing(self):
        for part in self.table:
            table = dict(self.table)
            del table[part]
            self.refused(NoTable, bears, self.shop, 4, 3, table)
            for other in ((0, 1), (1, 0), (5, 1), (1, 4), (-1, 1), (4, 3, 0), (4,), (), "4 3", 4, None, part + (),
                          frozenset(part), str(part), (part, part), ("4", "3"), (4, "3"), (None, 3), b"43",
                          (4, Fraction(3)), (4, (3,))):
                if other != part:
                    self.refused(NoTable, bears, self.shop, 4, 3, {**table, other: 99} if other not in table else table)

    def test_keys_too_many(self):
        for other in ((0, 0), (0, 1), (1, 0), (5, 1), (1, 4), (5, 4), (3, 5), (-1, -1), (SIXTY, 1), (1, 1, 1), (1,), (),
                      "1 1", "(1, 1)", 1, None, "", ("1", "1"), True):
            self.refused(NoTable, bears, self.shop, 4, 3, {**self.table, other: 99})
        self.refused(NoTable, bears, self.shop, 3, 4, self.table)
        self.refused(NoTable, bears, self.shop, 4, 4, self.table)
        self.refused(NoTable, bears, self.shop, 3, 3, self.table)
        self.refused(NoTable, bears, self.shop, 1, 1, {})

    def test_keys_that_only_equal_numbers(self):
        self.refused(NoTable, bears, self.shop, 1, 1, {(Fraction(1), 1): 0})
        self.refused(NoTable, bears, self.shop, 1, 1, {(1, 1 + 0j): 0})

    def test_numbers(self):
        for part in self.table:
            for wrong in no_wholes(0):
                self.refused(NoTable, bears, self.shop, 4, 3, {**self.table, part: wrong})
            self.assertIn(bears(self.shop, 4, 3, {**self.table, part: HUGE}), (True, False))

    def test_one_wrong_number_beside_others_that_do_not_bear(self):
        table = {part: 0 for part in self.table}
        self.assertIs(bears(self.shop, 4, 3, table), False)
        self.refused(NoTable, bears, self.shop, 4, 3, {**table, (4, 3): -1})
        self.refused(NoTable, bears, self.shop, 4, 3, {**table, (4, 3): False})

    def test_no_dicts(self):
        items = list(self.table.items())
        for thing in odd_things() + odd_texts() + odd_rows() + [0, 1, True, HUGE, items, tuple(items), list(self.table),
                                                               self.table.items(), self.table.keys(),
                                                               types.MappingProxyType(self.table),
                                                               collections.ChainMap(self.table)]:
            self.refused(NoTable, bears, self.shop, 4, 3, thing)
            self.refused(NoTable, bears, self.shop, 1, 1, thing)

    def test_no_plate_then_too_large(self):
        for thing in (self.table, None, {}, 7, {(1, 1): 0}):
            for wrong in no_wholes(1):
                self.refused(NoPlate, bears, self.shop, wrong, 3, thing)
                self.refused(NoPlate, bears, self.shop, 4, wrong, thing)
                self.refused(NoPlate, bears, self.shop, 17, wrong, thing)
                self.refused(NoPlate, bears, self.shop, wrong, 17, thing)
            for side in (17, 18, SIXTY, HUGE):
                self.refused(TooLarge, bears, self.shop, side, 3, thing)
                self.refused(TooLarge, bears, self.shop, 4, side, thing)
        full = {part: 10 ** 6 for part in keys(17, 1)}
        self.refused(TooLarge, bears, self.shop, 17, 1, full)

    def test_what_was_handed_in_stays(self):
        for table in (self.table, {part: 0 for part in self.table}, collections.defaultdict(int, self.table),
                      collections.defaultdict(int)):
            before = copy.deepcopy(table)
            try:
                bears(self.shop, 4, 3, table)
            except NoTable:
                self.assertEqual(len(table), 0)
            self.assertEqual(repr(table), repr(before))


if __name__ == "__main__":
    unittest.main()
