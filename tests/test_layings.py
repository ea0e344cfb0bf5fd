"""Point 10: of anything it is told whether it is a laying on a plate."""

import copy
import itertools
import random
import unittest

from platecuts.errors import NoPlate
from platecuts.layings import is_laying
from platecuts.shops import Shop

from things import (HUGE, SIXTY, Refusing, as_lists, cells_of, endless_list, mixed, no_truths, no_wholes, odd_rows,
                    odd_texts, odd_things, sides_by_kind, with_one_changed)

KINDS = [(3, 2, 5, 4, True), (4, 1, 9, 0, False), (2, 2, 1, 1, True)]
# On a plate 6 wide and 5 high: a wide one below, a turned one beside it, squares, a long one.
GOOD = ((0, False, 0, 0), (0, True, 4, 0), (2, False, 0, 2), (2, False, 2, 2), (1, False, 2, 4))


def by_cells(shop, wide, high, pieces):
    """Whether pieces of kinds that are right lie on the plate, each cell in at most one of them."""
    plate = cells_of(0, 0, wide, high)
    taken = set()
    for kind, turned, x, y in pieces:
        if (kind, turned) not in shop.lyings():
            return False
        cells = cells_of(x, y, *sides_by_kind(shop, kind, turned))
        if not cells <= plate or cells & taken:
            return False
        taken |= cells
    return True


class Layings(Refusing, unittest.TestCase):
    def setUp(self):
        self.shop = Shop(1, KINDS)

    def told(self, expected, wide, high, thing):
        self.assertIs(is_laying(self.shop, wide, high, thing), expected, (wide, high, thing))
        self.assertIs(is_laying(self.shop, wide, high, as_lists(thing)), expected, (wide, high, thing))
        self.assertIs(is_laying(self.shop, wide, high, list(thing)), expected, (wide, high, thing))
        self.assertIs(is_laying(self.shop, wide, high, tuple(as_lists(thing))), expected, (wide, high, thing))

    def test_ordinary(self):
        self.told(True, 6, 5, GOOD)
        self.told(False, 5, 5, GOOD)
        self.told(False, 6, 4, GOOD)
        for order in itertools.permutations(GOOD):
            self.told(True, 6, 5, order)
            self.told(True, 6, 5, order[:3])
        chance = random.Random(5)
        for _ in range(30):
            self.assertIs(is_laying(self.shop, 6, 5, mixed(GOOD, chance)), True)

    def test_none_at_all(self):
        for side in (1, 2, HUGE):
            self.told(True, side, 1, ())
            self.told(True, 1, side, ())

    def test_blade_has_no_bearing(self):
        for blade in (0, 1, 5, HUGE):
            self.shop = Shop(blade, KINDS)
            self.told(True, 6, 5, GOOD)

    def test_the_plates_edges(self):
        for x in range(-2, 7):
            for y in range(-2, 7):
                for kind, turned in self.shop.lyings() + [(1, True), (2, True), (3, False), (-1, False)]:
                    piece = (kind, turned, x, y)
                    fits = (kind, turned) in self.shop.lyings() and by_cells(self.shop, 5, 4, [piece])
                    self.told(fits, 5, 4, (piece,))

    def test_two_of_them(self):
        for one, other in itertools.product(self.shop.lyings(), repeat=2):
            for x in range(9):
                for y in range(8):
                    pair = (one + (3, 3), other + (x, y))
                    expected = by_cells(self.shop, 8, 7, pair)
                    self.told(expected, 8, 7, pair)
                    self.told(expected, 8, 7, pair[::-1])

    def test_any_two_of_many_may_overlap(self):
        row = tuple([(2, False, 2 * n, 0) for n in range(40)])
        self.told(True, 80, 2, row)
        for at in range(40):
            kind, turned, x, y = row[at]
            self.told(False, 81, 2, row[:at] + ((kind, turned, x + 1, y),) + row[at + 1:] if at < 39 else row + row[:1])
            self.told(False, 81, 2, row + (row[at],))

    def test_same_piece_twice(self):
        for piece in GOOD:
            self.told(False, 6, 5, GOOD + (piece,))
            self.told(False, 6, 5, (piece, piece))

    def test_by_chance(self):
        chance = random.Random(6)
        heads = {True: 0, False: 0}
        for _ in range(2000):
            wide, high = chance.randint(2, 8), chance.randint(2, 8)
            pieces = [chance.choice(self.shop.lyings()) + (chance.randint(0, 6), chance.randint(0, 6))
                      for _ in range(chance.randint(1, 3))]
            expected = by_cells(self.shop, wide, high, pieces)
            heads[expected] += 1
            self.assertIs(is_laying(self.shop, wide, high, mixed(pieces, chance)), expected, (wide, high, pieces))
        self.assertGreater(min(heads.values()), 200)

    def test_sixty_figures(self):
        self.shop = Shop(0, [(SIXTY, SIXTY - 1, 1, 1, True)])
        self.told(True, HUGE, HUGE, ((0, False, HUGE - SIXTY, HUGE - SIXTY + 1),))
        self.told(False, HUGE, HUGE, ((0, False, HUGE - SIXTY + 1, 0),))
        self.told(False, HUGE, HUGE, ((0, False, 0, HUGE - SIXTY + 2),))
        self.told(True, HUGE, HUGE, ((0, False, 0, 0), (0, True, SIXTY, 0)))
        self.told(False, HUGE, HUGE, ((0, False, 0, 0), (0, True, SIXTY - 1, 0)))
        self.told(True, HUGE, HUGE, ((0, False, 0, 0), (0, True, 0, SIXTY - 1)))
        self.told(False, HUGE, HUGE, ((0, False, 0, 0), (0, True, 0, SIXTY - 2)))


class Anything(Refusing, unittest.TestCase):
    def setUp(self):
        self.shop = Shop(1, KINDS)

    def test_anything_alone(self):
        empty = [[], ()]
        for thing in odd_things() + odd_texts() + odd_rows() + [0, 1, -1, True, HUGE, ("rest",), GOOD[0], list(GOOD[0])]:
            self.assertIs(is_laying(self.shop, 6, 5, thing), thing in empty, f"{thing!r:.200}")
            self.assertIs(is_laying(self.shop, 6, 5, [thing]), thing in ([GOOD[0], list(GOOD[0])]), f"{thing!r:.200}")
            self.assertIs(is_laying(self.shop, 6, 5, GOOD + (thing,)), False, f"{thing!r:.200}")

    def test_things_that_can_be_gone_through(self):
        for thing in ({GOOD[0]: GOOD[0]}, {GOOD[0]}, frozenset(GOOD), iter(GOOD), dict.fromkeys(GOOD).keys()):
            self.assertIs(is_laying(self.shop, 6, 5, thing), False)
        for piece in ({0: 0, False: 1, 2: 2, 3: 3}, {0, 1, 2, 3}, iter(GOOD[0]), range(4), "0000", b"0000"):
            self.assertIs(is_laying(self.shop, 6, 5, [piece]), False)

    def test_a_thing_more_or_less(self):
        for at, piece in enumerate(GOOD):
            for wrong in (piece[:-1], piece[1:], piece + (0,), piece + (None,), (), (piece,), ("piece",) + piece):
                changed = GOOD[:at] + (wrong,) + GOOD[at + 1:]
                self.assertIs(is_laying(self.shop, 6, 5, changed), False, changed)
                self.assertIs(is_laying(self.shop, 6, 5, as_lists(changed)), False, changed)

    def test_anything_at_any_place(self):
        for other in no_wholes(0):
            for was, changed in with_one_changed(GOOD, other):
                if type(was) is int:
                    self.assertIs(is_laying(self.shop, 6, 5, changed), False, f"{changed!r:.200}")
        for other in no_truths():
            for was, changed in with_one_changed(GOOD, other):
                if type(was) is bool:
                    self.assertIs(is_laying(self.shop, 6, 5, changed), False, f"{changed!r:.200}")

    def test_truths_for_numbers_one_by_one(self):
        piece = (0, False, 1, 1)
        self.assertIs(is_laying(self.shop, 6, 5, [piece]), True)
        for at, wrongs in ((0, (False,)), (1, (0, 1)), (2, (True, False)), (3, (True, False))):
            for wrong in wrongs:
                self.assertIs(is_laying(self.shop, 6, 5, [piece[:at] + (wrong,) + piece[at + 1:]]), False, (at, wrong))

    def test_no_plate(self):
        for thing in ((), GOOD, None, 7, endless_list()):
            for wrong in no_wholes(1):
                self.refused(NoPlate, is_laying, self.shop, wrong, 5, thing)
                self.refused(NoPlate, is_laying, self.shop, 6, wrong, thing)

    def test_what_was_handed_in_stays(self):
        for laying in (list(GOOD), as_lists(GOOD), mixed(GOOD, random.Random(2)), as_lists(GOOD)[::-1]):
            before = copy.deepcopy(laying)
            is_laying(self.shop, 6, 5, laying)
            is_laying(self.shop, 3, 3, laying)
            self.assertEqual(repr(laying), repr(before))


if __name__ == "__main__":
    unittest.main()
