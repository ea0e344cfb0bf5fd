"""Points 11 and 4: a laying has a tree just where it has no knot."""

import copy
import itertools
import random
import unittest

from platecuts.errors import NoLaying, NoPlate
from platecuts.layings import is_laying
from platecuts.measures import pieces_of
from platecuts.parting import tree_or_knot
from platecuts.shops import Shop
from platecuts.trees import is_tree

from things import (HUGE, SIXTY, Refusing, as_lists, cells_of, chance_tree, comb, is_all_tuples, mixed, no_wholes,
                    odd_rows, odd_texts, odd_things, sides_by_kind)


def spans(shop, piece, axis):
    kind, turned, *corner = piece
    return corner[axis], corner[axis] + sides_by_kind(shop, kind, turned)[axis]


def parts(shop, pieces, axis, p):
    """Whether the cut at p parts the pieces, as point 11 says it."""
    sides = []
    for piece in pieces:
        start, end = spans(shop, piece, axis)
        if end <= p:
            sides.append("ahead")
        elif start >= p + shop.blade():
            sides.append("behind")
        else:
            return False
    return "ahead" in sides and "behind" in sides


def no_cut_parts(shop, wide, high, pieces):
    """Whether no cut parts the pieces: each place from 1 on is tried."""
    for axis, side in enumerate((wide, high)):
        if any(parts(shop, pieces, axis, p) for p in range(1, side + 2)):
            return False
    return True


def knots(shop, wide, high, pieces):
    """All knots: all lots of two or more of the pieces are gone through."""
    return [lot for many in range(2, len(pieces) + 1) for lot in itertools.combinations(sorted(pieces), many)
            if no_cut_parts(shop, wide, high, lot)]


def all_layings(shop, wide, high, most):
    """All layings of at most so many pieces on a plate, one by one."""
    places = [(kind, turned, x, y) for kind, turned in shop.lyings() for x in range(wide) for y in range(high)
              if is_laying(shop, wide, high, [(kind, turned, x, y)])]
    cells = {place: cells_of(place[2], place[3], *sides_by_kind(shop, place[0], place[1])) for place in places}

    def further(chosen, taken, at):
        yield chosen
        if len(chosen) < most:
            for after in range(at, len(places)):
                if not cells[places[after]] & taken:
                    yield from further(chosen + [places[after]], taken | cells[places[after]], after + 1)
    return further([], set(), 0)


class Told(Refusing, unittest.TestCase):
    def look(self, shop, wide, high, laying):
        """The word that is told, when all that is told with it is right."""
        told = tree_or_knot(shop, wide, high, laying)
        self.assertIs(type(told), tuple)
        self.assertEqual(len(told), 2)
        word, thing = told
        pieces = sorted([tuple(piece) for piece in laying])
        if word == "tree":
            self.assertTrue(is_all_tuples(thing), thing)
            self.assertIs(is_tree(shop, wide, high, thing), True, (laying, thing))
            self.assertEqual(repr(pieces_of(shop, wide, high, thing)), repr(pieces))
            return word
        self.assertEqual(word, "knot")
        self.assertIs(type(thing), list)
        self.assertGreaterEqual(len(thing), 2)
        self.assertEqual(repr(thing), repr(sorted(set(thing))))
        self.assertTrue(all(is_all_tuples(piece) and piece in pieces for piece in thing))
        for axis in (0, 1):
            for piece in thing:
                # Where a cut parts some pieces, one does that begins right behind one of them.
                self.assertFalse(parts(shop, thing, axis, spans(shop, piece, axis)[1]), (laying, thing))
        return word


class SmallOnes(Told):
    def test_none_and_one(self):
        shop = Shop(1, [(3, 2, 5, 4, True)])
        for empty in ([], ()):
            word, tree = tree_or_knot(shop, 5, 4, empty)
            self.assertEqual(self.look(shop, 5, 4, empty), "tree")
            self.assertEqual(pieces_of(shop, 5, 4, tree), [])
        for turned, x, y in [(False, 0, 0), (False, 2, 2), (True, 3, 1), (True, 1, 0)]:
            for piece in ((0, turned, x, y), [0, turned, x, y]):
                self.assertEqual(self.look(shop, 5, 4, [piece]), "tree")

    def test_two(self):
        for blade in (0, 1, 2, 3):
            shop = Shop(blade, [(2, 2, 1, 1, False)])
            for x in range(8):
                for y in range(8):
                    laying = [(0, False, 3, 3), (0, False, x, y)]
                    if is_laying(shop, 9, 9, laying):
                        free = max(abs(x - 3), abs(y - 3)) >= 2 + blade
                        self.assertEqual(self.look(shop, 9, 9, laying), "tree" if free else "knot", (blade, x, y))
                        self.assertEqual(self.look(shop, 9, 9, laying[::-1]), "tree" if free else "knot")

    def test_the_plate_has_no_bearing_on_the_cuts_within(self):
        # The pieces reach all of the plate's edges: no cell is left beyond them.
        shop = Shop(1, [(2, 3, 1, 1, False)])
        self.assertEqual(self.look(shop, 5, 3, [(0, False, 0, 0), (0, False, 3, 0)]), "tree")
        self.assertEqual(self.look(shop, 2, 7, [(0, False, 0, 4), (0, False, 0, 0)]), "tree")

    def compare(self, shop, wide, high, most):
        words = {"tree": 0, "knot": 0}
        for laying in all_layings(shop, wide, high, most):
            found = knots(shop, wide, high, laying)
            word = self.look(shop, wide, high, laying)
            self.assertEqual(word, "knot" if found else "tree", laying)
            if word == "knot":
                self.assertIn(tuple(tree_or_knot(shop, wide, high, laying)[1]), found)
            words[word] += 1
        return words

    def test_all_layings_without_a_blade(self):
        shop = Shop(0, [(2, 1, 1, 1, True)])
        self.assertEqual(self.compare(shop, 3, 3, 9)["knot"], 2)
        self.assertGreater(self.compare(shop, 4, 3, 9)["knot"], 8)
        self.compare(Shop(0, [(1, 1, 1, 1, False), (2, 1, 1, 1, True)]), 3, 3, 5)

    def test_all_layings_with_a_blade(self):
        for blade in (1, 2):
            words = self.compare(Shop(blade, [(2, 1, 1, 1, True), (1, 1, 1, 1, False)]), 4, 3, 3)
            self.assertGreater(min(words.values()), 20)
            words = self.compare(Shop(blade, [(1, 1, 1, 1, False)]), 4, 4, 4)
            self.assertGreater(min(words.values()), 20)

    def test_by_chance(self):
        chance = random.Random(9)
        words = {"tree": 0, "knot": 0}
        for _ in range(400):
            shop = Shop(chance.choice((0, 0, 1, 1, 2)), [(3, 2, 1, 1, True), (1, 1, 1, 1, False), (4, 1, 1, 1, True)])
            wide, high = chance.randint(6, 12), chance.randint(6, 12)
            laying = []
            for _ in range(chance.randint(2, 40)):
                piece = chance.choice(shop.lyings()) + (chance.randint(0, wide), chance.randint(0, high))
                if len(laying) < 8 and is_laying(shop, wide, high, laying + [piece]):
                    laying.append(piece)
            word = self.look(shop, wide, high, mixed(laying, chance))
            self.assertEqual(word, "knot" if knots(shop, wide, high, laying) else "tree", laying)
            words[word] += 1
        self.assertGreater(min(words.values()), 50)


class OfTrees(Told):
    def test_layings_of_trees(self):
        chance = random.Random(10)
        most = 0
        for _ in range(400):
            shop = Shop(chance.randint(0, 2), [(2, 1, 1, 1, True), (1, 1, 1, 1, False), (3, 2, 1, 1, True)])
            wide, high = chance.randint(1, 40), chance.randint(1, 40)
            tree = chance_tree(chance, shop, wide, high, chance.randint(0, 39))
            laying = pieces_of(shop, wide, high, tree)
            chance.shuffle(laying)
            most = max(most, len(laying))
            self.assertEqual(self.look(shop, wide, high, laying), "tree", laying)
            self.assertEqual(self.look(shop, wide, high, mixed(laying, chance)), "tree", laying)
        self.assertGreater(most, 20)


def four(long, short, gap, x=0, y=0):
    """Four pieces round about, kind 0 long wide and short high, with so many cells between each two neighbours."""
    return [(0, False, x, y), (0, True, x + long + gap, y), (0, False, x + short + gap, y + long + gap),
            (0, True, x, y + short + gap)]


class RoundAbout(Told):
    def test_four(self):
        for blade in range(5):
            for long, short in ((2, 1), (3, 2), (4, 3)):
                shop = Shop(blade, [(long, short, 1, 1, True)])
                for gap in range(blade + 4):
                    side = long + short + gap
                    laying = four(long, short, gap)
                    self.assertIs(is_laying(shop, side, side, laying), True)
                    # A cut parts them as soon as the gap is wider than the blade, long being one more than short.
                    expected = "tree" if gap >= blade + 1 else "knot"
                    for order in itertools.permutations(laying):
                        self.assertEqual(self.look(shop, side, side, order), expected, (blade, gap))
                    if gap == blade:
                        self.assertEqual(tree_or_knot(shop, side, side, laying), ("knot", sorted(laying)))
                        for piece in laying:
                            fewer = [other for other in laying if other != piece]
                            self.assertEqual(self.look(shop, side, side, fewer), "tree")

    def test_long_ones(self):
        for blade in range(4):
            shop = Shop(blade, [(7, 2, 1, 1, True)])
            for gap in range(blade + 8):
                side = 9 + gap
                expected = "tree" if gap >= blade + 5 else "knot"
                self.assertEqual(self.look(shop, side, side, four(7, 2, gap)), expected, (blade, gap))

    def test_several_fours(self):
        for blade in (0, 1, 3):
            for gap, expected in ((blade, "knot"), (blade + 1, "tree")):
                shop = Shop(blade, [(3, 2, 1, 1, True)])
                step = 5 + gap + blade
                laying = [piece for right in range(5) for up in range(2)
                          for piece in four(3, 2, gap, right * step, up * step)]
                chance = random.Random(blade)
                for _ in range(5):
                    chance.shuffle(laying)
                    self.assertEqual(len(laying), 40)
                    self.assertEqual(self.look(shop, 5 * step, 2 * step, laying), expected)

    def test_one_four_among_trees(self):
        shop = Shop(1, [(3, 2, 1, 1, True)])
        for at in range(10):
            laying = []
            for n in range(10):
                gap = 1 if n == at else 2
                laying += four(3, 2, gap, (n % 5) * 8, (n // 5) * 8)
            told = tree_or_knot(shop, 40, 16, laying)
            self.assertEqual(told, ("knot", sorted(laying[4 * at:4 * at + 4])))


class Rows(Told):
    def test_rows(self):
        for blade in (0, 1, 2, 5):
            shop = Shop(blade, [(3, 2, 1, 1, False)])
            for gap in (blade - 1, blade, blade + 1):
                if gap >= 0:
                    expected = "knot" if gap < blade else "tree"
                    for many, rows in ((40, 1), (1, 40), (8, 5), (5, 8), (2, 1), (6, 6), (13, 3)):
                        laying = [(0, False, n * (3 + gap), m * (2 + gap)) for n in range(many) for m in range(rows)]
                        wide, high = many * (3 + gap) - gap, rows * (2 + gap) - gap
                        self.assertEqual(self.look(shop, wide, high, laying), expected, (blade, gap, many, rows))
                        self.assertEqual(self.look(shop, wide, high, laying[::-1]), expected)

    def test_rows_with_one_too_near(self):
        shop = Shop(2, [(3, 2, 1, 1, False)])
        for at in range(1, 40):
            laying = [(0, False, n * 5 - (1 if n >= at else 0), 0) for n in range(40)]
            self.assertEqual(tree_or_knot(shop, 200, 2, laying), ("knot", laying[at - 1:at + 1]))

    def test_stairs(self):
        shop = Shop(1, [(1, 1, 1, 1, False)])
        piece = ("piece", 0, False, 0, 0)
        laying = pieces_of(shop, 41, 41, comb(["down", "across"] * 19 + ["down"], 1, piece, piece))
        self.assertEqual(len(laying), 40)
        self.assertEqual(self.look(shop, 41, 41, laying), "tree")
        self.assertEqual(self.look(shop, 41, 41, laying[::-1]), "tree")

    def test_somewhat_beyond(self):
        shop = Shop(1, [(1, 1, 1, 1, False)])
        laying = [(0, False, 2 * n, 0) for n in range(60)]
        self.assertEqual(self.look(shop, 119, 1, laying), "tree")


class LargeOnes(Told):
    def test_sixty_figures(self):
        for blade in (0, 1, SIXTY):
            shop = Shop(blade, [(SIXTY + 1, SIXTY, 1, 1, True)])
            for gap in (blade, blade + 1):
                laying = four(SIXTY + 1, SIXTY, gap)
                side = 2 * SIXTY + 1 + gap
                expected = "knot" if gap == blade else "tree"
                self.assertEqual(self.look(shop, side, side, laying), expected)
                self.assertEqual(self.look(shop, HUGE, HUGE, laying), expected)
            far = [(0, False, HUGE - SIXTY - 1, HUGE - SIXTY), (0, True, 0, 0)]
            self.assertEqual(self.look(shop, HUGE, HUGE, far), "tree")
            near = [(0, False, 0, 0), (0, False, SIXTY + 1 + blade, 0), (0, False, 2 * SIXTY + 2 + 2 * blade, 0)]
            self.assertEqual(self.look(shop, HUGE, HUGE, near), "tree")


class Promises(Refusing, unittest.TestCase):
    def setUp(self):
        self.shop = Shop(1, [(3, 2, 5, 4, True), (4, 1, 9, 0, False)])

    def test_told_things_are_the_askers_own(self):
        laying = four(3, 2, 1)
        word, told = tree_or_knot(self.shop, 6, 6, laying)
        self.assertEqual(word, "knot")
        told.clear()
        self.assertEqual(len(laying), 4)
        self.assertEqual(tree_or_knot(self.shop, 6, 6, laying), ("knot", sorted(laying)))
        word, told = tree_or_knot(self.shop, 6, 6, as_lists(laying))
        told.clear()
        self.assertEqual(tree_or_knot(self.shop, 6, 6, as_lists(laying)), ("knot", sorted(laying)))

    def test_what_was_handed_in_stays(self):
        for laying in (four(3, 2, 1), four(3, 2, 2)):
            for form in (laying, laying[::-1], as_lists(laying), tuple(as_lists(laying)), mixed(laying, random.Random(1))):
                before = copy.deepcopy(form)
                told = tree_or_knot(self.shop, 7, 7, form)
                self.assertEqual(repr(form), repr(before))
                kept = repr(told)
                if isinstance(form, list):
                    for piece in form:
                        if isinstance(piece, list):
                            piece[2] = 50
                    form.clear()
                self.assertEqual(repr(told), kept)

    def test_no_laying(self):
        wrong = [thing for thing in odd_things() + odd_texts() + odd_rows() if thing not in ([], ())]
        wrong += [0, 1, True, False, HUGE, (0, False, 0, 0), [(0, False, 0)], [(0, False, 0, 0, 0)]]
        wrong += [[(0, False, 4, 0)], [(0, False, 0, 5)], [(0, False, -1, 0)], [(0, 0, 0, 0)], [(False, False, 0, 0)],
                  [(1, True, 0, 0)], [(2, False, 0, 0)], [(0, False, 0, 0), (1, False, 2, 1)],
                  [(0, False, 0, 0), (0, False, 0, 0)], {(0, False, 0, 0)}, {(0, False, 0, 0): 1}]
        for thing in wrong:
            self.refused(NoLaying, tree_or_knot, self.shop, 6, 6, thing)

    def test_no_plate_comes_first(self):
        for thing in ([], [(0, False, 0, 0)], None, 7, [(0, False, 9, 9)]):
            for wrong in no_wholes(1):
                self.refused(NoPlate, tree_or_knot, self.shop, wrong, 6, thing)
                self.refused(NoPlate, tree_or_knot, self.shop, 6, wrong, thing)


if __name__ == "__main__":
    unittest.main()
