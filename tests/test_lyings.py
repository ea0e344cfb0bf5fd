"""Point 6: lyings and their sides."""

import unittest

from platecuts.errors import NoLying
from platecuts.shops import Shop
from things import HUGE, SIXTY, Refusing, no_truths, no_wholes

MIXED = [
    (3, 2, 5, 4, True), (3, 2, 5, 4, False), (4, 4, 1, 1, True), (4, 4, 1, 1, False),
    (1, 7, 0, 0, True), (3, 2, 5, 4, True), (SIXTY, HUGE, 1, 1, True), (SIXTY, SIXTY, 1, 1, True),
]
MIXED_SIDES = {
    (0, False): (3, 2), (0, True): (2, 3), (1, False): (3, 2), (2, False): (4, 4), (3, False): (4, 4),
    (4, False): (1, 7), (4, True): (7, 1), (5, False): (3, 2), (5, True): (2, 3),
    (6, False): (SIXTY, HUGE), (6, True): (HUGE, SIXTY), (7, False): (SIXTY, SIXTY),
}


class Lyings(unittest.TestCase):
    def lie(self, kinds, lyings):
        told = Shop(1, kinds).lyings()
        self.assertIs(type(told), list)
        self.assertEqual(told, lyings)
        for lying in told:
            self.assertIs(type(lying), tuple)
            self.assertEqual([type(thing) for thing in lying], [int, bool])

    def test_may_be_turned_sides_unlike(self):
        self.lie([(3, 2, 5, 4, True)], [(0, False), (0, True)])
        self.lie([(2, 3, 5, 4, True)], [(0, False), (0, True)])

    def test_may_be_turned_sides_alike(self):
        self.lie([(3, 3, 5, 4, True)], [(0, False)])
        self.lie([(1, 1, 5, 4, True)], [(0, False)])

    def test_may_not_be_turned(self):
        self.lie([(3, 2, 5, 4, False)], [(0, False)])
        self.lie([(3, 3, 5, 4, False)], [(0, False)])

    def test_worth_and_wanted_have_no_bearing(self):
        self.lie([(3, 2, 0, 0, True)], [(0, False), (0, True)])
        self.lie([(3, 2, 3, 2, True)], [(0, False), (0, True)])
        self.lie([(3, 3, 1, 2, True)], [(0, False)])

    def test_mixed_sorted(self):
        self.lie(MIXED, sorted(MIXED_SIDES))
        self.lie([list(kind) for kind in MIXED], sorted(MIXED_SIDES))

    def test_all_turn(self):
        self.lie([(1, 2, 0, 0, True)] * 8, [(n, turned) for n in range(8) for turned in (False, True)])

    def test_sides_that_differ_in_the_last_figure(self):
        self.lie([(SIXTY, SIXTY + 1, 0, 0, True)], [(0, False), (0, True)])


class Sides(unittest.TestCase):
    def test_sides_of_each(self):
        shop = Shop(0, MIXED)
        for (kind, turned), sides in MIXED_SIDES.items():
            told = shop.sides(kind, turned)
            self.assertIs(type(told), tuple)
            self.assertEqual(told, sides)

    def test_sides_of_kinds_handed_in_as_lists(self):
        shop = Shop(0, tuple([list(kind) for kind in MIXED]))
        for lying in shop.lyings():
            self.assertIs(type(shop.sides(lying[0], lying[1])), tuple)
            self.assertEqual(shop.sides(lying[0], lying[1]), MIXED_SIDES[lying])

    def test_the_blade_has_no_bearing(self):
        for blade in (0, 1, 5, HUGE):
            self.assertEqual(Shop(blade, MIXED).sides(0, True), (2, 3))


class Refusals(Refusing, unittest.TestCase):
    def test_just_the_lyings_have_sides(self):
        shop = Shop(1, MIXED)
        for kind in range(-20, 20):
            for turned in (False, True):
                if (kind, turned) not in MIXED_SIDES:
                    self.refused(NoLying, shop.sides, kind, turned)

    def test_numbers_beyond(self):
        for many in range(1, 9):
            shop = Shop(1, [(3, 2, 5, 4, True)] * many)
            for kind in (many, many + 1, 8, 9, SIXTY, HUGE):
                self.refused(NoLying, shop.sides, kind, False)
                self.refused(NoLying, shop.sides, kind, True)

    def test_no_numbers(self):
        shop = Shop(1, [(3, 2, 5, 4, True)] * 2)
        for kind in no_wholes(0):
            self.refused(NoLying, shop.sides, kind, False)
            self.refused(NoLying, shop.sides, kind, True)

    def test_no_truths(self):
        shop = Shop(1, [(3, 2, 5, 4, True), (3, 2, 5, 4, False)])
        for turned in no_truths():
            self.refused(NoLying, shop.sides, 0, turned)
            self.refused(NoLying, shop.sides, 1, turned)

    def test_both_wrong(self):
        shop = Shop(1, [(3, 2, 5, 4, True)])
        for kind, turned in ((True, 1), (False, 0), (None, None), ((0, False), None), (-1, 0), (1, "True")):
            self.refused(NoLying, shop.sides, kind, turned)

    def test_turned_where_it_cannot_be(self):
        for kind in ((3, 2, 5, 4, False), (3, 3, 5, 4, True), (3, 3, 5, 4, False), (HUGE, HUGE, 0, 0, True)):
            self.refused(NoLying, Shop(1, [kind]).sides, 0, True)

    def test_a_refusal_changes_nothing(self):
        shop = Shop(1, MIXED)
        for kind, turned in ((1, True), (8, False), (-1, False), (None, None)):
            self.refused(NoLying, shop.sides, kind, turned)
        self.assertEqual(shop.blade(), 1)
        self.assertEqual(shop.kinds(), MIXED)
        self.assertEqual(shop.lyings(), sorted(MIXED_SIDES))


if __name__ == "__main__":
    unittest.main()
