"""Point 5: kinds and shops."""

import copy
import unittest

from platecuts.errors import NoBlade, NoKind, NoKinds
from platecuts.shops import Shop
from things import HUGE, SIXTY, Refusing, deep_list, endless_list
from things import no_truths, no_wholes, odd_rows, odd_texts, odd_things

KIND = (3, 2, 5, 4, True)
EIGHT = [
    (3, 2, 5, 4, True), (2, 3, 0, 0, False), (1, 1, 1, 1, True), (3, 2, 5, 4, True),
    (SIXTY, 1, HUGE, SIXTY, False), (1, HUGE, 0, 7, True), (4, 4, 9, 0, False), (10, 20, 30, 40, True),
]


def as_lists(kinds):
    return [list(kind) for kind in kinds]


class Shops(unittest.TestCase):
    def told(self, shop, blade, kinds):
        """The shop tells this blade and these kinds, and each of them as the very sort of thing promised."""
        self.assertIs(type(shop.blade()), int)
        self.assertEqual(shop.blade(), blade)
        self.assertIs(type(shop.kinds()), list)
        self.assertEqual(shop.kinds(), kinds)
        for told, kind in zip(shop.kinds(), kinds):
            self.assertIs(type(told), tuple)
            self.assertEqual([type(thing) for thing in told], [int, int, int, int, bool])
            self.assertIs(told[4], kind[4])

    def test_one_kind(self):
        self.told(Shop(1, [KIND]), 1, [KIND])

    def test_one_kind_that_stays(self):
        self.told(Shop(2, [(3, 2, 5, 4, False)]), 2, [(3, 2, 5, 4, False)])

    def test_eight_kinds_two_alike(self):
        self.told(Shop(3, EIGHT), 3, EIGHT)

    def test_each_number_of_kinds(self):
        for many in range(1, 9):
            self.told(Shop(1, EIGHT[:many]), 1, EIGHT[:many])

    def test_all_kinds_alike(self):
        self.told(Shop(1, [KIND] * 8), 1, [KIND] * 8)

    def test_lists_and_tuples_in_either_place(self):
        self.told(Shop(1, tuple(EIGHT)), 1, EIGHT)
        self.told(Shop(1, as_lists(EIGHT)), 1, EIGHT)
        self.told(Shop(1, tuple(as_lists(EIGHT))), 1, EIGHT)
        self.told(Shop(1, as_lists(EIGHT[:3]) + EIGHT[3:]), 1, EIGHT)

    def test_blade_of_nought(self):
        self.told(Shop(0, [KIND]), 0, [KIND])

    def test_least_numbers(self):
        self.told(Shop(0, [(1, 1, 0, 0, False)]), 0, [(1, 1, 0, 0, False)])

    def test_sixty_figures(self):
        kind = (HUGE, SIXTY, HUGE, SIXTY, True)
        self.told(Shop(HUGE, [kind]), HUGE, [kind])
        self.told(Shop(SIXTY, [list(kind)]), SIXTY, [kind])

    def test_order_is_kept(self):
        self.told(Shop(1, EIGHT[::-1]), 1, EIGHT[::-1])

    def test_shops_do_not_share(self):
        one, two = Shop(1, [KIND]), Shop(2, EIGHT)
        self.told(one, 1, [KIND])
        self.told(two, 2, EIGHT)

    def test_asked_again_is_answered_alike(self):
        shop = Shop(1, EIGHT)
        self.assertEqual(shop.kinds(), shop.kinds())
        self.assertEqual(shop.blade(), shop.blade())
        self.assertEqual(shop.lyings(), shop.lyings())


class Owning(unittest.TestCase):
    def test_what_was_handed_in_is_changed_behind_it(self):
        kinds = as_lists(EIGHT)
        shop = Shop(1, kinds)
        lyings = shop.lyings()
        for kind in kinds:
            kind[0] = 99
            kind[4] = not kind[4]
            kind.append("more")
        kinds.reverse()
        kinds.pop()
        self.assertEqual(shop.kinds(), EIGHT)
        self.assertEqual(shop.lyings(), lyings)
        self.assertEqual(shop.sides(0, True), (2, 3))
        kinds.clear()
        self.assertEqual(shop.kinds(), EIGHT)

    def test_lists_in_a_tuple_are_changed_behind_it(self):
        kinds = tuple(as_lists(EIGHT))
        shop = Shop(1, kinds)
        for kind in kinds:
            kind.clear()
        self.assertEqual(shop.kinds(), EIGHT)

    def test_told_lists_are_emptied(self):
        shop = Shop(1, EIGHT)
        lyings = shop.lyings()
        kept = list(lyings)
        shop.kinds().clear()
        lyings.clear()
        self.assertEqual(shop.kinds(), EIGHT)
        self.assertEqual(shop.lyings(), kept)

    def test_told_lists_are_the_askers_own(self):
        shop = Shop(1, EIGHT)
        self.assertIsNot(shop.kinds(), shop.kinds())
        self.assertIsNot(shop.lyings(), shop.lyings())

    def test_what_is_handed_in_stays_as_it_was(self):
        kinds = as_lists(EIGHT)
        kept = copy.deepcopy(kinds)
        shop = Shop(1, kinds)
        shop.kinds().append(KIND)
        shop.lyings().append((9, True))
        self.assertEqual(kinds, kept)
        self.assertTrue(all(type(kind) is list for kind in kinds))

    def test_refused_things_stay_as_they_were(self):
        kinds = as_lists(EIGHT) + [[0, 1, 1, 1, True]]
        kept = copy.deepcopy(kinds)
        for blade, some in ((-1, kinds), (1, kinds), (1, kinds[1:])):
            with self.assertRaises(ValueError):
                Shop(blade, some)
        self.assertEqual(kinds, kept)


class Refusals(Refusing, unittest.TestCase):
    def test_no_blade(self):
        for blade in no_wholes(0):
            self.refused(NoBlade, Shop, blade, [KIND])

    def test_no_kinds_of_other_sorts(self):
        for kinds in [0, 1, 5, -1, SIXTY, True, False] + odd_texts() + odd_things():
            self.refused(NoKinds, Shop, 1, kinds)

    def test_no_kinds_where_kinds_stand_in_another_sort_of_thing(self):
        for kinds in ({KIND}, {KIND: 1}, {0: KIND}, iter([KIND]), {0: KIND}.values(), frozenset([KIND])):
            self.refused(NoKinds, Shop, 1, kinds)

    def test_no_kinds_where_too_few_or_too_many(self):
        for many in (0, 9, 10, 16, 300):
            self.refused(NoKinds, Shop, 1, [KIND] * many)
            self.refused(NoKinds, Shop, 1, (KIND,) * many)

    def test_no_kind_of_other_sorts(self):
        things = [0, 1, 5, SIXTY, True, False] + odd_texts() + odd_rows() + odd_things()
        for thing in things:
            self.refused(NoKind, Shop, 1, [thing])
            self.refused(NoKind, Shop, 1, (thing,))

    def test_a_kind_alone_is_no_list_of_kinds(self):
        self.refused(NoKind, Shop, 1, KIND)
        self.refused(NoKind, Shop, 1, list(KIND))

    def test_no_kind_of_lists_within_lists(self):
        for thing in ([KIND], (KIND,), [list(KIND)], [KIND] * 5, [[n] for n in KIND], endless_list(), deep_list(50)):
            self.refused(NoKind, Shop, 1, [thing])

    def test_no_kind_of_too_few_or_too_many_things(self):
        things = (3, 2, 5, 4, True, True, 1)
        for many in (0, 1, 2, 3, 4, 6, 7):
            self.refused(NoKind, Shop, 1, [things[:many]])
            self.refused(NoKind, Shop, 1, [list(things[:many])])
        self.refused(NoKind, Shop, 1, [(3, 2, 5, True)])
        self.refused(NoKind, Shop, 1, [(True, 3, 2, 5, 4)])

    def test_no_kind_by_each_place(self):
        wrong = (no_wholes(1), no_wholes(1), no_wholes(0), no_wholes(0), no_truths())
        for place in range(5):
            for thing in wrong[place]:
                kind = list(KIND)
                kind[place] = thing
                self.refused(NoKind, Shop, 1, [kind])
                self.refused(NoKind, Shop, 1, (tuple(kind),))

    def test_no_kind_wherever_it_stands(self):
        for many in range(1, 9):
            for place in range(many):
                for wrong in ((0, 2, 5, 4, True), (3, 2, 5, 4, 1), None, [], "12345"):
                    kinds = EIGHT[:many]
                    kinds[place] = wrong
                    self.refused(NoKind, Shop, 1, kinds)

    def test_no_blade_goes_first(self):
        for kinds in (None, [], (), [None], [KIND] * 9, [None] * 9, [(0, 0, 0, 0, 0)], "a", 1):
            for blade in (-1, None, True, "1", [1]):
                self.refused(NoBlade, Shop, blade, kinds)

    def test_no_kinds_goes_ahead_of_no_kind(self):
        for kinds in ([None] * 9, (None,) * 9, [KIND] * 8 + [None], [None] + [KIND] * 8):
            self.refused(NoKinds, Shop, 1, kinds)


if __name__ == "__main__":
    unittest.main()
