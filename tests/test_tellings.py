"""Points 19 and 4: tellings of trees, and trees that have a telling."""

import copy
import random
import unittest

from platecuts.errors import NoPlate, NoTelling, NoTree
from platecuts.measures import areas_of, counts_of, worth_of
from platecuts.shops import Shop
from platecuts.tellings import telling_of, tree_told
from platecuts.trees import is_tree
from platecuts.turning import turns_of

from things import (HUGE, SIXTY, Refusing, as_lists, chance_tree, comb, is_all_tuples, mixed, no_truths, no_wholes,
                    odd_rows, odd_texts, odd_things, plain_leaves, sides_behind, sides_by_kind, with_one_changed)

REST = ("rest",)
FLAT = ("piece", 0, False, 0, 0)
TALL = ("piece", 0, True, 0, 0)
SQUARE = ("piece", 2, False, 0, 0)
# Kind 0 may be turned, kind 1 may not, kind 2 is square, so that turning it makes no lying.
KINDS = [(3, 2, 5, 4, True), (4, 1, 9, 0, False), (2, 2, 1, 1, True)]
OTHER = {"down": "across", "across": "down"}
# Of a plate 12 wide and 7 high, with a blade of 1.
GOOD = ("down", ((2, REST), (4, ("across", ((1, ("piece", 1, False, 0, 0)), (2, SQUARE), (2, REST)))),
                 (4, ("piece", 0, True, 1, 3))))


def plain_telling(blade, wide, high, tree):
    """The telling of a tree by the words of point 19."""
    if tree[0] in ("rest", "piece"):
        return tree
    way, p, first, second = tree
    row = []
    for inner, sides in zip((first, second), sides_behind(blade, way, p, wide, high)):
        telling = plain_telling(blade, *sides, inner)
        row += telling[1] if telling[0] == way else [(sides[0] if way == "down" else sides[1], telling)]
    return (way, tuple(sorted(row)))


def told_by_the_words(shop, wide, high, thing):
    """Of anything: whether it is a telling of a part, by the words of point 19."""
    if type(thing) not in (list, tuple) or not thing or type(thing[0]) is not str:
        return False
    if thing[0] == "rest":
        return len(thing) == 1
    if thing[0] == "piece":
        if [type(inner) for inner in thing[1:]] != [int, bool, int, int]:
            return False
        _, kind, turned, x, y = thing
        if (kind, turned) not in shop.lyings():
            return False
        a, b = sides_by_kind(shop, kind, turned)
        return 0 <= x <= wide - a and 0 <= y <= high - b
    if thing[0] not in OTHER or len(thing) != 2 or type(thing[1]) not in (list, tuple) or len(thing[1]) < 2:
        return False
    way, row = thing
    side = wide if way == "down" else high
    for inner in row:
        if type(inner) not in (list, tuple) or len(inner) != 2 or type(inner[0]) is not int or inner[0] < 1:
            return False
    if sum(size for size, _ in row) + (len(row) - 1) * shop.blade() != side:
        return False
    for size, telling in row:
        sides = (size, high) if way == "down" else (wide, size)
        if not told_by_the_words(shop, *sides, telling) or telling[0] == way:
            return False
    plain = [as_plain(inner) for inner in row]
    return plain == sorted(plain)


def as_plain(thing):
    return tuple(as_plain(inner) for inner in thing) if type(thing) in (list, tuple) else thing


def told_leaves(blade, x, y, wide, high, telling):
    """All (x, y, wide, high, leaf) of a telling, the row's things one behind another."""
    if telling[0] in ("rest", "piece"):
        return [(x, y, wide, high, telling)]
    leaves = []
    for size, inner in telling[1]:
        if telling[0] == "down":
            leaves += told_leaves(blade, x, y, size, high, inner)
            x += size + blade
        else:
            leaves += told_leaves(blade, x, y, wide, size, inner)
            y += size + blade
    return leaves


def chain(blade, way, wide, high, tree):
    """The things that cuts of one way leave: a list of (size, tree of another sort)."""
    if tree[0] != way:
        return [(wide if way == "down" else high, tree)]
    ahead, behind = sides_behind(blade, way, tree[1], wide, high)
    return chain(blade, way, *ahead, tree[2]) + chain(blade, way, *behind, tree[3])


def cut_anew(chance, blade, way, things):
    """A tree that leaves these things in this order, by cuts of the way made in any order."""
    if len(things) == 1:
        return things[0][1]
    at = chance.randint(1, len(things) - 1)
    p = sum(size for size, _ in things[:at]) + (at - 1) * blade
    return (way, p, cut_anew(chance, blade, way, things[:at]), cut_anew(chance, blade, way, things[at:]))


def shuffled(chance, blade, wide, high, tree):
    """A tree that comes of this one by parts exchanged and cuts of one way made in another order."""
    if tree[0] in ("rest", "piece"):
        return tree
    way = tree[0]
    things = []
    for size, inner in chain(blade, way, wide, high, tree):
        sides = (size, high) if way == "down" else (wide, size)
        things.append((size, shuffled(chance, blade, *sides, inner)))
    chance.shuffle(things)
    return cut_anew(chance, blade, way, things)


def forms(thing):
    return (thing, as_lists(thing), mixed(thing, random.Random(1)), mixed(thing, random.Random(2)))


class Looking(Refusing, unittest.TestCase):
    def look(self, shop, wide, high, tree):
        """The telling that is told, when it is that by the words, leads to a tree, and that one to it."""
        expected = plain_telling(shop.blade(), wide, high, tree)
        for form in forms(tree):
            before = copy.deepcopy(form)
            told = telling_of(shop, wide, high, form)
            self.assertEqual(told, expected)
            self.assertTrue(is_all_tuples(told))
            self.assertEqual(repr(form), repr(before))
        self.assertTrue(told_by_the_words(shop, wide, high, told))
        for form in forms(told):
            before = copy.deepcopy(form)
            back = tree_told(shop, wide, high, form)
            self.assertEqual(repr(form), repr(before))
            self.assertTrue(is_all_tuples(back))
            self.assertIs(is_tree(shop, wide, high, back), True)
            self.assertEqual(plain_leaves(shop.blade(), 0, 0, wide, high, back),
                             told_leaves(shop.blade(), 0, 0, wide, high, told))
            self.assertEqual(telling_of(shop, wide, high, back), told)
        self.same(shop, wide, high, tree, back)
        return told

    def same(self, shop, wide, high, one, other):
        for measure in (counts_of, worth_of, areas_of, turns_of):
            self.assertEqual(measure(shop, wide, high, one), measure(shop, wide, high, other))


class Tellings(Looking):
    def test_without_a_cut(self):
        shop = Shop(1, KINDS)
        self.assertEqual(self.look(shop, 5, 4, REST), REST)
        self.assertEqual(self.look(shop, 5, 4, ("piece", 0, True, 2, 1)), ("piece", 0, True, 2, 1))
        self.assertEqual(self.look(shop, HUGE, HUGE, REST), REST)

    def test_one_cut(self):
        shop = Shop(1, KINDS)
        self.assertEqual(self.look(shop, 6, 4, ("down", 3, FLAT, REST)), ("down", ((2, REST), (3, FLAT))))
        self.assertEqual(self.look(shop, 6, 4, ("down", 2, REST, FLAT)), ("down", ((2, REST), (3, FLAT))))
        self.assertEqual(self.look(shop, 6, 4, ("across", 1, REST, FLAT)), ("across", ((1, REST), (2, FLAT))))
        self.assertEqual(self.look(shop, 6, 4, ("across", 2, FLAT, REST)), ("across", ((1, REST), (2, FLAT))))

    def test_one_way_only_nested_on_either_side(self):
        for way, wide, high in (("down", 12, 3), ("across", 3, 12)):
            shop = Shop(1, KINDS)
            row = ((2, SQUARE), (2, SQUARE), (2, REST), (3, REST))
            things = list(row)
            chance = random.Random(30)
            for _ in range(40):
                chance.shuffle(things)
                tree = cut_anew(chance, 1, way, things)
                self.assertEqual(self.look(shop, wide, high, tree), (way, row))

    def test_nested_ways(self):
        shop = Shop(0, KINDS)
        inner = ("across", 1, REST, SQUARE)
        told = ("across", ((1, REST), (2, SQUARE)))
        self.assertEqual(self.look(shop, 6, 3, ("down", 3, inner, ("down", 1, REST, inner))),
                         ("down", ((1, REST), (2, told), (3, told))))
        # A row of the same way below a row of the other way stays a row by itself.
        deep = ("down", 4, ("across", 1, REST, ("down", 2, SQUARE, SQUARE)), REST)
        self.assertEqual(self.look(shop, 6, 3, deep),
                         ("down", ((2, REST), (4, ("across", ((1, REST), (2, ("down", ((2, SQUARE), (2, SQUARE))))))))))

    def test_sorted_as_python_sorts(self):
        shop = Shop(0, KINDS + [(2, 3, 1, 1, True)])
        with_piece = ("across", 1, REST, SQUARE)
        without_piece = ("across", 1, REST, REST)
        things = [(2, REST), (2, TALL), (2, ("piece", 3, False, 0, 0)), (2, SQUARE), (2, ("piece", 2, False, 0, 1)),
                  (2, without_piece), (2, with_piece), (3, FLAT), (3, ("piece", 0, False, 0, 1)), (1, REST)]
        chance = random.Random(31)
        told = set()
        for _ in range(30):
            chance.shuffle(things)
            told.add(self.look(shop, 21, 3, cut_anew(chance, 0, "down", things)))
        self.assertEqual(len(told), 1)
        row = told.pop()[1]
        self.assertEqual(row[0], (1, REST))
        self.assertEqual([inner[0] for size, inner in row[1:8]], ["across", "across"] + ["piece"] * 4 + ["rest"])
        self.assertEqual([inner for size, inner in row[3:7]],
                         [TALL, SQUARE, ("piece", 2, False, 0, 1), ("piece", 3, False, 0, 0)])
        # Of two rows the one whose second thing comes first: a piece is ahead of a rest.
        self.assertEqual([inner[1][1][1][0] for size, inner in row[1:3]], ["piece", "rest"])

    def test_trees_that_come_of_one_another(self):
        chance = random.Random(32)
        unlike = 0
        for _ in range(400):
            shop = Shop(chance.randint(0, 2), KINDS)
            wide, high = chance.randint(1, 25), chance.randint(1, 25)
            tree = chance_tree(chance, shop, wide, high, chance.randint(0, 44))
            other = shuffled(chance, shop.blade(), wide, high, tree)
            self.assertIs(is_tree(shop, wide, high, other), True)
            self.assertEqual(self.look(shop, wide, high, tree), telling_of(shop, wide, high, other))
            self.same(shop, wide, high, tree, other)
            unlike += tree != other
        self.assertGreater(unlike, 200)

    def test_other_trees_have_other_tellings(self):
        shop = Shop(0, KINDS)
        trees = [("down", 3, ("across", 3, REST, REST), ("across", 3, REST, REST)),
                 ("across", 3, ("down", 3, REST, REST), ("down", 3, REST, REST)),
                 ("down", 3, ("across", 2, REST, REST), ("across", 3, REST, REST)),
                 ("down", 2, ("across", 3, REST, REST), ("across", 3, REST, REST)),
                 ("down", 3, FLAT, REST), ("down", 3, ("piece", 0, False, 0, 1), REST), ("down", 3, TALL, REST)]
        self.assertEqual(len({self.look(shop, 6, 6, tree) for tree in trees}), len(trees))

    def test_44_cuts(self):
        shop = Shop(1, KINDS)
        for ways in (["down"] * 44, ["across"] * 44, ["down", "across"] * 22, ["down", "down", "across"] * 14):
            tree = comb(ways, 2, REST, REST)
            told = self.look(shop, 140, 140, tree)
            if len(set(ways)) == 1:
                self.assertEqual(len(told[1]), 45)
        other = REST
        for at in range(44):
            other = ("down", 1 + 2 * at, other, REST)
        self.assertEqual(self.look(shop, 89, 5, other), ("down", ((1, REST),) * 45))

    def test_rows_within_rows_within_rows(self):
        shop = Shop(0, [(1, 1, 1, 1, False)])
        tree = ("piece", 0, False, 0, 0)
        side = 1
        for at in range(14):
            tree = (("down", "across")[at % 2], side, tree, tree if at < 4 else REST)
            if at % 2:
                side *= 2
        told = self.look(shop, side, side, tree)
        self.assertEqual(repr(told).count("down") + repr(told).count("across"), repr(tree).count("down")
                         + repr(tree).count("across"))

    def test_sixty_figures(self):
        shop = Shop(SIXTY, [(SIXTY, SIXTY - 1, SIXTY, 1, True)])
        wide, high = SIXTY * 4 + 5, SIXTY + 1
        flat, tall = ("piece", 0, False, 1, 2), ("piece", 0, True, 0, 1)
        tree = ("down", SIXTY + 1, flat, ("down", SIXTY - 1, tall, REST))
        told = ("down", ((5, REST), (SIXTY - 1, tall), (SIXTY + 1, flat)))
        self.assertEqual(self.look(shop, wide, high, tree), told)
        for change in (-1, 1):
            self.refused(NoTelling, tree_told, shop, wide + change, high, told)
        self.refused(NoTelling, tree_told, shop, wide, SIXTY, told)
        self.assertEqual(self.look(Shop(0, KINDS), HUGE, HUGE, ("across", HUGE - 5, REST, SQUARE)),
                         ("across", ((5, SQUARE), (HUGE - 5, REST))))

    def test_later_changes_have_no_bearing(self):
        shop = Shop(1, KINDS)
        tree = as_lists(tree_told(shop, 12, 7, GOOD))
        told = telling_of(shop, 12, 7, tree)
        telling = as_lists(GOOD)
        back = tree_told(shop, 12, 7, telling)
        tree.clear()
        telling[1][1][1][1].clear()
        telling.clear()
        self.assertEqual(told, GOOD)
        self.assertEqual(telling_of(shop, 12, 7, back), GOOD)


class Refusals(Looking):
    def setUp(self):
        self.shop = Shop(1, KINDS)

    def told(self, shop, wide, high, thing):
        """A tree that has the telling is told, or it is refused, as the words have it."""
        if not told_by_the_words(shop, wide, high, thing):
            self.refused(NoTelling, tree_told, shop, wide, high, thing)
            return False
        tree = tree_told(shop, wide, high, thing)
        self.assertIs(is_tree(shop, wide, high, tree), True)
        self.assertTrue(is_all_tuples(tree))
        self.assertEqual(telling_of(shop, wide, high, tree), as_plain(thing))
        return True

    def wrong(self, wide, high, *things):
        for thing in things:
            for form in forms(thing):
                self.refused(NoTelling, tree_told, self.shop, wide, high, form)

    def test_good_ones(self):
        for form in forms(GOOD):
            self.assertTrue(self.told(self.shop, 12, 7, form))
        for wide, high in ((11, 7), (13, 7), (12, 6), (12, 8), (7, 12)):
            self.wrong(wide, high, GOOD)

    def test_sizes(self):
        for first in range(-1, 8):
            for second in range(-1, 8):
                good = 1 <= first <= second and first + second + 1 == 7
                for way, wide, high in (("down", 7, 3), ("across", 3, 7)):
                    self.assertIs(self.told(self.shop, wide, high, (way, ((first, REST), (second, REST)))), good)
                    self.assertIs(self.told(self.shop, high, wide, (way, ((first, REST), (second, REST)))),
                                  first == second == 1)

    def test_sizes_one_more_or_less(self):
        for blade in (0, 1, 2):
            shop = Shop(blade, KINDS)
            for change in (-1, 0, 1):
                for at in range(3):
                    sizes = [2, 3, 4]
                    sizes[at] += change
                    row = tuple((size, REST) for size in sizes)
                    self.assertIs(self.told(shop, 9 + 2 * blade, 2, ("down", row)), change == 0)
                self.assertIs(self.told(shop, 9 + 2 * blade + change, 2, ("down", tuple((n, REST) for n in (2, 3, 4)))),
                              change == 0)

    def test_two_things_of_a_row_exchanged(self):
        row = GOOD[1]
        self.wrong(12, 7, ("down", (row[1], row[0], row[2])), ("down", (row[0], row[2], row[1])),
                   ("down", (row[2], row[1], row[0])))
        inner = row[1][1][1]
        for changed in ((inner[1], inner[0], inner[2]), (inner[0], inner[2], inner[1])):
            self.wrong(12, 7, ("down", (row[0], (4, ("across", changed)), row[2])))

    def test_sorting_of_lists(self):
        # As lists and tuples these could not even be compared.
        row = [(2, ["rest"]), [2, ("rest",)], (2, ("rest",))]
        self.assertTrue(self.told(self.shop, 8, 2, ["down", row]))
        self.assertTrue(self.told(self.shop, 5, 2, ("down", [[2, ["piece", 2, False, 0, 0]], (2, ["rest"])])))
        self.assertFalse(self.told(self.shop, 5, 2, ("down", [(2, ["rest"]), [2, ["piece", 2, False, 0, 0]]])))

    def test_rows(self):
        self.wrong(5, 5, ("down", ()), ("down", ((5, REST),)), ("across", ((5, REST),)), ("down", REST), ("down",),
                   ("down", (2, REST), (2, REST)), ("down", ((2, REST), (2, REST)), ()), (("down", ((5, REST),)),),
                   ("down", ((2, REST), (2, REST, 0))), ("down", ((2, REST), (2,))), ("down", ((2,), (2, REST))),
                   ("down", ((2, REST), 2)), ("down", ((REST, 2), (REST, 2))), ("down", 2, REST, REST),
                   ("down", {2: REST, 3: REST}), ("down", "ab"), ("down", "2rest"))

    def test_a_row_within_one_of_its_own_way(self):
        for way, wide, high in (("down", 11, 5), ("across", 5, 11)):
            inner = (way, ((2, REST), (2, REST)))
            self.wrong(wide, high, (way, ((5, inner), (5, REST))), (way, ((5, REST), (5, inner))),
                       (way, ((5, inner), (5, inner))))
            self.assertTrue(self.told(self.shop, wide, high, (way, ((5, (OTHER[way], ((2, REST), (2, REST)))), (5, REST)))))

    def test_words(self):
        for word in ("rests", "Rest", "", "r", "up", "left", "DOWN", "tree", "knot", "piece", "down", "across"):
            self.wrong(5, 5, (word,), (word, ((2, REST), (2, "rest"))))
        for word in ("downs", "Across", "", "rest", "piece", "a"):
            self.wrong(5, 5, (word, ((2, REST), (2, REST))))
            self.wrong(5, 5, (word, 0, False, 0, 0) if word != "piece" else (word, 0, False, 0, 0, 0))

    def test_pieces_in_their_parts(self):
        for x in range(-1, 4):
            for y in range(-1, 4):
                piece = ("piece", 0, False, x, y)
                good = x in (0, 1) and y in (0, 1, 2)
                self.assertIs(self.told(self.shop, 9, 4, ("down", ((4, piece), (4, REST)))), good)
                self.assertIs(self.told(self.shop, 4, 9, ("across", ((4, piece), (4, REST)))), good)
        for kind in (-1, 0, 1, 2, 3):
            for turned in (True, False):
                good = (kind, turned) in ((0, False), (0, True), (1, False), (2, False))
                self.assertIs(self.told(self.shop, 9, 9, ("piece", kind, turned, 0, 0)), good)

    def test_odd_things_at_every_place(self):
        heads = {True: 0, False: 0}
        others = no_wholes(1) + no_truths() + [REST, ("rest", 0), SQUARE, GOOD, 2, 4, True, ["rest"], "rest", "across",
                                               ((2, REST), (2, REST)), ("down", ((2, REST), (1, REST)))]
        for other in others:
            for was, changed in with_one_changed(GOOD, other):
                heads[self.told(self.shop, 12, 7, changed)] += 1
        self.assertGreater(min(heads.values()), 10)

    def test_nothing_but_tellings(self):
        for thing in odd_things() + odd_texts() + odd_rows() + [0, 1, True, False, HUGE, -1]:
            self.refused(NoTelling, tree_told, self.shop, 5, 5, thing)
            self.refused(NoTelling, tree_told, self.shop, 5, 5, ("down", thing))
            self.refused(NoTelling, tree_told, self.shop, 5, 5, ("across", ((2, REST), (2, thing))))
            self.refused(NoTree, telling_of, self.shop, 5, 5, thing)
            self.refused(NoTree, telling_of, self.shop, 5, 5, ("across", 2, REST, thing))

    def test_trees_and_tellings_are_not_each_other(self):
        self.refused(NoTelling, tree_told, self.shop, 5, 5, ("down", 2, REST, REST))
        self.refused(NoTree, telling_of, self.shop, 5, 5, ("down", ((2, REST), (2, REST))))
        for wrong in (("down", 4, REST, REST), ("piece", 0, False, 3, 0), ("piece", 0, 0, 0, 0), ("rest", "rest")):
            self.refused(NoTree, telling_of, self.shop, 5, 5, wrong)

    def test_lists_within_themselves(self):
        row = [[2, REST], [2, REST]]
        thing = ["down", row]
        row[1][1] = thing
        self.refused(NoTelling, tree_told, self.shop, 5, 5, thing)
        row[1][1] = ["across", [[2, REST], [2, thing]]]
        self.refused(NoTelling, tree_told, self.shop, 5, 5, thing)
        row[0][0], row[1][0] = 1, HUGE - 2
        row[1][1] = ["across", [[1, REST], [HUGE - 2, thing]]]
        self.refused(NoTelling, tree_told, self.shop, HUGE, HUGE, thing)

    def test_no_plate_comes_first(self):
        for wrong in no_wholes(1):
            for thing in (REST, GOOD, None, ("down", 8, REST, REST), 7):
                self.refused(NoPlate, telling_of, self.shop, wrong, 7, thing)
                self.refused(NoPlate, telling_of, self.shop, 12, wrong, thing)
                self.refused(NoPlate, tree_told, self.shop, wrong, 7, thing)
                self.refused(NoPlate, tree_told, self.shop, 12, wrong, thing)


if __name__ == "__main__":
    unittest.main()
