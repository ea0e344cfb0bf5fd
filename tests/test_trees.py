"""Point 8: of anything it is told whether it is a tree of a part of a shop."""

import copy
import random
import unittest

from platecuts.errors import NoPlate
from platecuts.shops import Shop
from platecuts.trees import is_tree

from things import (HUGE, SIXTY, Refusing, as_lists, bush, chance_tree, comb, mixed, no_truths, no_wholes, odd_rows,
                    odd_texts, odd_things, sides_by_kind, with_one_changed)

REST = ("rest",)
# Kind 0 may be turned, kind 1 may not, kind 2 is square, so that turning it makes no lying.
KINDS = [(3, 2, 5, 4, True), (4, 1, 9, 0, False), (2, 2, 1, 1, True)]
# Of a plate 9 wide and 7 high, with a blade of 1: all four sorts, both ways.
GOOD = ("down", 4,
        ("across", 3, ("piece", 0, False, 1, 1), ("down", 1, REST, ("piece", 0, True, 0, 0))),
        ("across", 1, ("piece", 1, False, 0, 0), REST))


def by_the_words(shop, wide, high, thing):
    """What point 8 says, written once more, by the kinds of things themselves."""
    if type(thing) not in (list, tuple) or not thing or type(thing[0]) is not str:
        return False
    word, *things = thing
    if word == "rest":
        return not things
    if word == "piece":
        if [type(inner) for inner in things] != [int, bool, int, int]:
            return False
        kind, turned, x, y = things
        if (kind, turned) not in shop.lyings() or x < 0 or y < 0:
            return False
        a, b = sides_by_kind(shop, kind, turned)
        return x in range(wide - a + 1) and y in range(high - b + 1)
    if word not in ("down", "across") or len(things) != 3 or type(things[0]) is not int:
        return False
    p, first, second = things
    behind = (wide if word == "down" else high) - p - shop.blade()
    if p < 1 or behind < 1:
        return False
    if word == "down":
        return by_the_words(shop, p, high, first) and by_the_words(shop, behind, high, second)
    return by_the_words(shop, wide, p, first) and by_the_words(shop, wide, behind, second)


class Sorts(unittest.TestCase):
    def setUp(self):
        self.shop = Shop(1, KINDS)

    def told(self, expected, wide, high, thing):
        self.assertIs(is_tree(self.shop, wide, high, thing), expected, (wide, high, thing))
        self.assertIs(is_tree(self.shop, wide, high, as_lists(thing)), expected, (wide, high, thing))

    def test_rest(self):
        for wide in (1, 2, HUGE):
            self.told(True, wide, 1, REST)
            self.told(True, 1, wide, REST)
        self.told(False, 5, 5, ())
        self.told(False, 5, 5, ("rest", 0))
        self.told(False, 5, 5, ("rest", "rest"))
        self.told(False, 5, 5, (REST,))

    def test_piece(self):
        for x in range(-2, 6):
            for y in range(-2, 6):
                self.told(x in (0, 1, 2) and y in (0, 1, 2), 5, 4, ("piece", 0, False, x, y))
                self.told(x in (0, 1, 2, 3) and y in (0, 1), 5, 4, ("piece", 0, True, x, y))

    def test_piece_that_just_fits(self):
        self.told(True, 3, 2, ("piece", 0, False, 0, 0))
        self.told(False, 2, 3, ("piece", 0, False, 0, 0))
        self.told(False, 3, 2, ("piece", 0, True, 0, 0))
        self.told(True, 2, 3, ("piece", 0, True, 0, 0))
        self.told(False, 2, 2, ("piece", 0, False, 0, 0))
        self.told(False, 3, 1, ("piece", 0, False, 0, 0))

    def test_lyings(self):
        for kind in (-3, -2, -1, 0, 1, 2, 3, 4, HUGE):
            self.told(kind in (0, 1, 2), 9, 9, ("piece", kind, False, 0, 0))
            self.told(kind == 0, 9, 9, ("piece", kind, True, 0, 0))

    def test_cuts(self):
        for blade in (0, 1, 2, 3):
            self.shop = Shop(blade, KINDS)
            for p in range(-1, 9):
                fits = 1 <= p < 6 - blade
                self.told(fits, 6, 1, ("down", p, REST, REST))
                self.told(fits, 1, 6, ("across", p, REST, REST))
                self.told(False, 1, 6, ("down", p, REST, REST))
                self.told(False, 6, 1, ("across", p, REST, REST))

    def test_blade_as_wide_as_the_part(self):
        for blade in (5, 6, 7, HUGE):
            self.shop = Shop(blade, KINDS)
            for p in range(-1, 8):
                self.told(False, 6, 6, ("down", p, REST, REST))
                self.told(False, 6, 6, ("across", p, REST, REST))

    def test_both_parts_of_a_cut_are_looked_at(self):
        piece = ("piece", 0, False, 0, 0)
        for wide in range(1, 9):
            for p in range(1, wide - 1):
                self.told(p >= 3, wide, 2, ("down", p, piece, REST))
                self.told(wide - p - 1 >= 3, wide, 2, ("down", p, REST, piece))
                self.told(p >= 2, 3, wide, ("across", p, piece, REST))
                self.told(wide - p - 1 >= 2, 3, wide, ("across", p, REST, piece))

    def test_parts_keep_their_other_side(self):
        piece = ("piece", 0, False, 0, 0)
        self.told(True, 7, 2, ("down", 3, piece, piece))
        self.told(False, 7, 1, ("down", 3, piece, REST))
        self.told(False, 7, 1, ("down", 3, REST, piece))
        self.told(True, 3, 5, ("across", 2, piece, piece))
        self.told(False, 2, 5, ("across", 2, piece, REST))
        self.told(False, 2, 5, ("across", 2, REST, piece))

    def test_nested(self):
        self.told(True, 9, 7, GOOD)
        for wide in range(1, 20):
            for high in range(1, 16):
                self.told(by_the_words(self.shop, wide, high, GOOD), wide, high, GOOD)


class Forms(Refusing, unittest.TestCase):
    def setUp(self):
        self.shop = Shop(1, KINDS)

    def test_tuples_and_lists_mixed(self):
        chance = random.Random(8)
        for _ in range(50):
            self.assertIs(is_tree(self.shop, 9, 7, mixed(GOOD, chance)), True)
            self.assertIs(is_tree(self.shop, 8, 7, mixed(GOOD, chance)), False)

    def test_words(self):
        for word in ("rest", "piece", "down", "across"):
            wrong = [word[1:], word[:-1], word + word[-1], word + " ", " " + word, word + "s", word + "\n",
                     word.upper(), word.title(), "", word.encode(), list(word), (word,), None, 0, True]
            for other in wrong:
                trees = [tree for was, tree in with_one_changed(GOOD, other) if was == word]
                self.assertGreater(len(trees), 0)
                for tree in trees:
                    self.assertIs(is_tree(self.shop, 9, 7, tree), False, tree)

    def test_words_exchanged(self):
        for word in ("rest", "piece", "down", "across", "tree", "knot"):
            for was, tree in with_one_changed(GOOD, word):
                self.assertIs(is_tree(self.shop, 9, 7, tree), by_the_words(self.shop, 9, 7, tree), tree)

    def test_a_thing_more_or_less(self):
        for was, _ in with_one_changed(GOOD, None):
            if isinstance(was, tuple):
                for wrong in [was[:-1], was[1:], was + (0,), was + (None,), was + (was,), was + (REST,), was[::-1],
                              was + was]:
                    for stood, tree in with_one_changed(GOOD, wrong):
                        if stood == was and wrong != was:
                            self.assertIs(is_tree(self.shop, 9, 7, tree), False, tree)
                            self.assertIs(is_tree(self.shop, 9, 7, as_lists(tree)), False, tree)

    def test_anything_at_any_place(self):
        for other in no_wholes(0) + no_truths() + [REST, [0, 1], GOOD, 1, 2, 3, 4, HUGE]:
            for was, tree in with_one_changed(GOOD, other):
                expected = by_the_words(self.shop, 9, 7, tree)
                self.assertIs(is_tree(self.shop, 9, 7, tree), expected, f"{tree!r:.300}")

    def test_numbers_for_truths_and_truths_for_numbers(self):
        for other, stood in ((0, bool), (1, bool), (False, int), (True, int)):
            trees = [tree for was, tree in with_one_changed(GOOD, other) if type(was) is stood]
            self.assertGreaterEqual(len(trees), 3)
            for tree in trees:
                self.assertIs(is_tree(self.shop, 9, 7, tree), False, tree)
        corner = ("piece", 0, False, 1, 1)
        self.assertIs(is_tree(self.shop, 9, 7, corner), True)
        for at in (1, 3, 4):
            for truth in (False, True):
                wrong = corner[:at] + (truth,) + corner[at + 1:]
                self.assertIs(is_tree(self.shop, 9, 7, wrong), False, wrong)
        for number in (0, 1):
            self.assertIs(is_tree(self.shop, 9, 7, ("piece", 0, number, 1, 1)), False)
        self.assertIs(is_tree(self.shop, 9, 7, ("down", True, REST, REST)), False)
        self.assertIs(is_tree(self.shop, 9, 7, ("across", True, REST, REST)), False)

    def test_anything_alone(self):
        for thing in odd_things() + odd_texts() + odd_rows() + [0, 1, -1, True, False, HUGE, "rest", "down", "piece"]:
            self.assertIs(is_tree(self.shop, 9, 7, thing), False, f"{thing!r:.200}")
            self.assertIs(is_tree(self.shop, 9, 7, [thing]), thing == "rest", f"{thing!r:.200}")
            for way in ("down", "across"):
                self.assertIs(is_tree(self.shop, 9, 7, (way, 1, thing, REST)), False, f"{thing!r:.200}")
                self.assertIs(is_tree(self.shop, 9, 7, (way, 1, REST, thing)), False, f"{thing!r:.200}")

    def test_endless_tree(self):
        endless = ["down", 1, REST, None]
        endless[3] = endless
        self.assertIs(is_tree(self.shop, 50, 7, endless), False)

    def test_one_that_claims_to_be_equal_to_all(self):
        class Equal:
            def __eq__(self, other):
                return True

        class Bad:
            def __eq__(self, other):
                raise RuntimeError

        for word in (Equal(), Bad()):
            for _, tree in with_one_changed(GOOD, word):
                self.assertIs(is_tree(self.shop, 9, 7, tree), False)

    def test_by_chance(self):
        chance = random.Random(11)
        heads = {True: 0, False: 0}
        for _ in range(1500):
            shop = Shop(chance.randint(0, 2), KINDS)
            wide, high = chance.randint(1, 14), chance.randint(1, 14)
            tree = mixed(chance_tree(chance, shop, wide, high, chance.randint(0, 9)), chance)
            self.assertIs(is_tree(shop, wide, high, tree), True, (wide, high, tree))
            wide, high = wide + chance.randint(0, 1) - 1 or 1, high + chance.randint(0, 1) - 1 or 1
            shop = Shop(shop.blade() + chance.choice((0, 0, 0, 1)), KINDS)
            expected = by_the_words(shop, wide, high, tree)
            heads[expected] += 1
            self.assertIs(is_tree(shop, wide, high, tree), expected, (wide, high, tree))
        self.assertGreater(min(heads.values()), 300)

    def test_no_plate(self):
        for thing in [REST, GOOD, (), None, 7, "rest"]:
            for wrong in no_wholes(1):
                self.refused(NoPlate, is_tree, self.shop, wrong, 7, thing)
                self.refused(NoPlate, is_tree, self.shop, 9, wrong, thing)
                self.refused(NoPlate, is_tree, self.shop, wrong, wrong, thing)

    def test_what_was_handed_in_stays(self):
        for tree in (GOOD, as_lists(GOOD), mixed(GOOD, random.Random(3))):
            before = copy.deepcopy(tree)
            is_tree(self.shop, 9, 7, tree)
            is_tree(self.shop, 3, 3, tree)
            self.assertEqual(repr(tree), repr(before))
        self.assertEqual(self.shop.kinds(), KINDS)
        self.assertEqual(self.shop.blade(), 1)


class LargeOnes(unittest.TestCase):
    def test_sixty_figures(self):
        shop = Shop(SIXTY, [(SIXTY, SIXTY - 1, 1, 1, True)])
        for p in (SIXTY - 1, SIXTY, SIXTY + 1):
            for second in (SIXTY - 1, SIXTY):
                wide = p + SIXTY + second
                tree = ("down", p, ("piece", 0, False, p - SIXTY, 0), ("piece", 0, True, 0, 0))
                fits = p >= SIXTY
                self.assertIs(is_tree(shop, wide, SIXTY, tree), fits)
                self.assertIs(is_tree(shop, wide, SIXTY - 1, tree), False)
                tree = ("across", p, ("piece", 0, True, 0, p - SIXTY), ("piece", 0, False, 0, 0))
                self.assertIs(is_tree(shop, SIXTY, wide, tree), fits)
                self.assertIs(is_tree(shop, SIXTY - 1, wide, tree), False)
        self.assertIs(is_tree(shop, HUGE, HUGE, ("piece", 0, False, HUGE - SIXTY, HUGE - SIXTY + 1)), True)
        self.assertIs(is_tree(shop, HUGE, HUGE, ("piece", 0, False, HUGE - SIXTY + 1, 0)), False)
        self.assertIs(is_tree(shop, HUGE, HUGE, ("piece", 0, False, 0, HUGE - SIXTY + 2)), False)
        self.assertIs(is_tree(shop, HUGE, 1, ("down", HUGE - SIXTY - 1, REST, REST)), True)
        self.assertIs(is_tree(shop, HUGE, 1, ("down", HUGE - SIXTY, REST, REST)), False)
        self.assertIs(is_tree(shop, 1, HUGE, ("across", HUGE - SIXTY - 1, REST, REST)), True)
        self.assertIs(is_tree(shop, 1, HUGE, ("across", HUGE - SIXTY, REST, REST)), False)

    def test_255_cuts(self):
        shop = Shop(0, [(1, 1, 1, 1, False)])
        piece = ("piece", 0, False, 0, 0)
        tree = bush(7, 64, ("across", 1, piece, REST))
        self.assertEqual(repr(tree).count("down") + repr(tree).count("across"), 255)
        for form in (tree, as_lists(tree)):
            self.assertIs(is_tree(shop, 128, 2, form), True)
            self.assertIs(is_tree(shop, 127, 2, form), False)
            self.assertIs(is_tree(shop, 128, 1, form), False)

    def test_nested_sixty_deep(self):
        shop = Shop(2, [(1, 1, 1, 1, False)])
        piece = ("piece", 0, False, 0, 0)
        for ways, wide, high in [(["down"] * 59, 178, 1), (["across"] * 59, 1, 178), (["down", "across"] * 29, 88, 88)]:
            tree = comb(ways, 1, piece, piece)
            for form in (tree, as_lists(tree)):
                self.assertIs(is_tree(shop, wide, high, form), True)
                if wide > 1:
                    self.assertIs(is_tree(shop, wide - 1, high, form), False)
                if high > 1:
                    self.assertIs(is_tree(shop, wide, high - 1, form), False)

    def test_somewhat_beyond(self):
        shop = Shop(1, [(1, 1, 1, 1, False)])
        tree = comb(["down"] * 300, 1, REST, REST)
        self.assertIs(is_tree(shop, 601, 1, tree), True)
        self.assertIs(is_tree(shop, 600, 1, tree), False)
        self.assertIs(is_tree(shop, HUGE, HUGE, comb(["down"] * 300, SIXTY // 1000, REST, REST)), True)


if __name__ == "__main__":
    unittest.main()
