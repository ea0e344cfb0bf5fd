"""Points 20 and 4: stores, what comes, what is cut, what is lost, and undoing."""

import copy
import random
import unittest

from platecuts.errors import NoNumber, NoPlate, NoTree
from platecuts.shops import Shop
from platecuts.stores import Store

from things import (HUGE, SIXTY, Refusing, as_lists, chance_tree, comb, mixed, no_wholes, odd_rows, odd_texts,
                    odd_things, plain_leaves, sides_by_kind)

REST = ("rest",)
# Kind 0 may be turned, kind 1 may not, kind 2 is square.
KINDS = [(3, 2, 5, 4, True), (4, 1, 9, 0, False), (2, 2, 1, 1, True)]
FLAT = ("piece", 0, False, 0, 0)


class Model:
    """A store once more, by the words of point 20: it keeps all its deeds and does them anew for each answer."""

    def __init__(self, shop, least):
        self.shop, self.least, self.deeds = shop, least, []

    def told(self):
        plates, made, put, lost, upcoming = {}, [0] * len(self.shop.kinds()), 0, 0, 0
        for deed in self.deeds:
            if deed[0] == "put":
                plates[upcoming] = deed[1:]
                put += deed[1] * deed[2]
                upcoming += 1
                continue
            wide, high = plates.pop(deed[1])
            lost += wide * high
            rests = []
            for x, y, a, b, leaf in plain_leaves(self.shop.blade(), 0, 0, wide, high, deed[2]):
                if leaf[0] == "rest":
                    rests.append((x, y, a, b))
                else:
                    made[leaf[1]] += 1
                    a, b = sides_by_kind(self.shop, leaf[1], leaf[2])
                    lost -= a * b
            for x, y, a, b in sorted(rests):
                if a >= self.least and b >= self.least:
                    plates[upcoming] = (a, b)
                    lost -= a * b
                    upcoming += 1
        there = sum(wide * high for wide, high in plates.values())
        areas = sum(many * kind[0] * kind[1] for many, kind in zip(made, self.shop.kinds()))
        return (sorted((number,) + sides for number, sides in plates.items()), made, (put, there, areas, lost)), upcoming


def all_told(store):
    return (store.plates(), store.made(), store.cells())


class Looking(Refusing, unittest.TestCase):
    def look(self, store):
        """What a store tells, when it is of the kinds that are told, and put is the sum of the others."""
        told = all_told(store)
        plates, made, cells = told
        self.assertIs(type(plates), list)
        for plate in plates:
            self.assertIs(type(plate), tuple)
            self.assertEqual([type(thing) for thing in plate], [int, int, int])
        numbers = [plate[0] for plate in plates]
        self.assertEqual(numbers, sorted(set(numbers)))
        self.assertIs(type(made), list)
        self.assertTrue(all(type(many) is int for many in made))
        self.assertIs(type(cells), tuple)
        self.assertEqual([type(many) for many in cells], [int] * 4)
        self.assertEqual(cells[0], cells[1] + cells[2] + cells[3])
        self.assertGreaterEqual(min(cells), 0)
        return told


class Ordinary(Looking):
    def test_empty(self):
        for least in (1, 2, SIXTY, HUGE):
            store = Store(Shop(1, KINDS), least)
            self.assertEqual(self.look(store), ([], [0, 0, 0], (0, 0, 0, 0)))
            self.assertIs(store.undo(), False)
            self.assertEqual(self.look(store), ([], [0, 0, 0], (0, 0, 0, 0)))

    def test_put(self):
        store = Store(Shop(1, KINDS), 5)
        for number, (wide, high) in enumerate(((6, 5), (1, 1), (6, 5), (HUGE, SIXTY))):
            told = store.put(wide, high)
            self.assertIs(type(told), int)
            self.assertEqual(told, number)
        cells = 30 + 1 + 30 + HUGE * SIXTY
        self.assertEqual(self.look(store), ([(0, 6, 5), (1, 1, 1), (2, 6, 5), (3, HUGE, SIXTY)], [0, 0, 0],
                                            (cells, cells, 0, 0)))

    def test_cut(self):
        store = Store(Shop(1, KINDS), 2)
        store.put(9, 7)
        store.put(4, 4)
        # Rests at (0, 4), 1 by 3, which is lost, and at (5, 2), 4 by 5.
        tree = ("down", 4, ("across", 3, ("piece", 0, False, 1, 1), ("down", 1, REST, ("piece", 0, True, 0, 0))),
                ("across", 1, ("piece", 1, False, 0, 0), REST))
        told = store.cut(0, tree)
        self.assertIs(type(told), list)
        self.assertEqual(told, [2])
        self.assertEqual(self.look(store), ([(1, 4, 4), (2, 4, 5)], [2, 1, 0], (79, 36, 16, 27)))
        self.assertEqual(store.cut(2, ("across", 2, ("piece", 2, False, 1, 0), ("piece", 2, False, 0, 0))), [])
        self.assertEqual(self.look(store), ([(1, 4, 4)], [2, 1, 2], (79, 16, 24, 39)))
        self.assertEqual(store.put(1, 1), 3)
        self.refused(NoNumber, store.cut, 2, REST)
        self.refused(NoNumber, store.cut, 0, REST)

    def test_rests_come_in_the_order_of_point_9(self):
        store = Store(Shop(0, KINDS), 1)
        store.put(10, 10)
        # By x, then by y, wherever they stand in the tree: corners (0, 0), (0, 5), (1, 0), (4, 0), (4, 3).
        tree = ("down", 4, ("across", 5, ("down", 1, REST, REST), REST), ("across", 3, REST, REST))
        self.assertEqual(store.cut(0, tree), [1, 2, 3, 4, 5])
        self.assertEqual(store.plates(), [(1, 1, 5), (2, 4, 5), (3, 3, 5), (4, 6, 3), (5, 6, 7)])

    def test_the_least_side(self):
        for least in range(1, 8):
            store = Store(Shop(0, KINDS), least)
            store.put(9, 5)
            # Rests of 2 by 5, 3 by 1, 3 by 4 and 4 by 5.
            tree = ("down", 2, REST, ("down", 3, ("across", 1, REST, REST), REST))
            rests = [(2, 5), (3, 1), (3, 4), (4, 5)]
            kept = [rest for rest in rests if min(rest) >= least]
            self.assertEqual(store.cut(0, tree), list(range(1, len(kept) + 1)))
            self.assertEqual([plate[1:] for plate in store.plates()], kept)
            there = sum(wide * high for wide, high in kept)
            self.assertEqual(self.look(store)[2], (45, there, 0, 45 - there))

    def test_rest_alone(self):
        store = Store(Shop(1, KINDS), 3)
        store.put(3, 4)
        self.assertEqual(store.cut(0, REST), [1])
        self.assertEqual(self.look(store), ([(1, 3, 4)], [0, 0, 0], (12, 12, 0, 0)))
        self.assertEqual(store.cut(1, ["rest"]), [2])
        self.assertEqual(self.look(store), ([(2, 3, 4)], [0, 0, 0], (12, 12, 0, 0)))

    def test_plates_smaller_than_the_least(self):
        store = Store(Shop(1, KINDS), 3)
        self.assertEqual([store.put(2, 50), store.put(50, 2), store.put(1, 1)], [0, 1, 2])
        self.assertEqual(store.cut(1, REST), [])
        self.assertEqual(self.look(store), ([(0, 2, 50), (2, 1, 1)], [0, 0, 0], (201, 101, 0, 100)))
        self.assertEqual(store.cut(0, ("piece", 2, False, 0, 7)), [])
        self.assertEqual(self.look(store), ([(2, 1, 1)], [0, 0, 1], (201, 1, 4, 196)))

    def test_sixty_figures(self):
        store = Store(Shop(SIXTY, [(SIXTY, 2, 1, 1, True)]), SIXTY)
        store.put(HUGE, HUGE)
        tree = ("down", SIXTY, ("piece", 0, False, 0, 5), ("across", SIXTY - 1, REST, REST))
        wide, high = HUGE - 2 * SIXTY, HUGE - 2 * SIXTY + 1
        self.assertEqual(store.cut(0, tree), [1])
        cells = HUGE * HUGE
        self.assertEqual(self.look(store), ([(1, wide, high)], [1],
                                            (cells, wide * high, 2 * SIXTY, cells - wide * high - 2 * SIXTY)))
        store = Store(Shop(0, KINDS), HUGE)
        store.put(HUGE, HUGE)
        self.assertEqual(store.cut(0, REST), [1])
        self.assertEqual(store.cut(1, ("down", 1, REST, REST)), [])

    def test_thirty_cuts_in_a_tree(self):
        shop = Shop(0, [(1, 1, 1, 1, False)])
        store = Store(shop, 1)
        store.put(31, 1)
        self.assertEqual(store.cut(0, comb(["down"] * 30, 1, REST, ("piece", 0, False, 0, 0))), list(range(1, 31)))
        self.assertEqual(self.look(store), ([(n, 1, 1) for n in range(1, 31)], [1], (31, 30, 1, 0)))
        store.put(40, 40)
        tree = comb(["down", "across"] * 15, 1, ("piece", 0, False, 0, 0), REST)
        self.assertEqual(store.cut(31, as_lists(tree)), [32])
        self.assertEqual(self.look(store)[1], [31])


class Undoing(Looking):
    def test_numbers_come_again(self):
        store = Store(Shop(0, KINDS), 1)
        self.assertEqual(store.put(5, 5), 0)
        self.assertEqual(store.put(6, 6), 1)
        self.assertIs(store.undo(), True)
        self.assertEqual(store.put(7, 7), 1)
        self.assertEqual(store.cut(1, ("down", 3, REST, REST)), [2, 3])
        self.assertIs(store.undo(), True)
        self.assertEqual(store.plates(), [(0, 5, 5), (1, 7, 7)])
        self.assertEqual(store.put(1, 1), 2)
        self.assertIs(store.undo(), True)
        self.assertIs(store.undo(), True)
        self.assertIs(store.undo(), True)
        self.assertIs(store.undo(), False)
        self.assertEqual(self.look(store), ([], [0, 0, 0], (0, 0, 0, 0)))
        self.assertEqual(store.put(2, 2), 0)

    def test_the_order_of_plates_behind_an_undo(self):
        store = Store(Shop(0, KINDS), 1)
        for side in (5, 6, 7):
            store.put(side, side)
        store.cut(0, REST)
        self.assertEqual(store.plates(), [(1, 6, 6), (2, 7, 7), (3, 5, 5)])
        store.undo()
        self.assertEqual(store.plates(), [(0, 5, 5), (1, 6, 6), (2, 7, 7)])

    def test_an_undo_takes_back_one_deed_and_is_none(self):
        store = Store(Shop(0, KINDS), 1)
        store.put(5, 5)
        store.put(6, 6)
        store.undo()
        # The deed ahead of the one that is undone is next, not the undoing.
        self.assertIs(store.undo(), True)
        self.assertEqual(store.plates(), [])
        self.assertIs(store.undo(), False)

    def test_by_chance(self):
        chance = random.Random(33)
        for _ in range(60):
            shop = Shop(chance.randint(0, 2), KINDS)
            self.run_deeds(chance, shop, chance.randint(1, 4), chance.randint(1, 60))

    def run_deeds(self, chance, shop, least, many):
        """Deeds, and undoings among them, then all of them undone, then done anew."""
        store, model = Store(shop, least), Model(shop, least)
        seen = [all_told(store)]
        told = []
        for _ in range(many):
            if model.deeds and chance.random() < 0.15:
                self.assertIs(store.undo(), True)
                model.deeds.pop()
                seen.pop()
                told.pop()
            else:
                told.append(self.do(store, model, self.deed_by_chance(chance, shop, store), chance))
                seen.append(self.look(store))
            self.assertEqual(self.look(store), model.told()[0])
            self.assertEqual(all_told(store), seen[-1])
        deeds = list(model.deeds)
        self.undo_all(store, seen)
        model.deeds.clear()
        for deed, answer, after in zip(deeds, told, seen[1:]):
            self.assertEqual(self.do(store, model, deed, chance), answer)
            self.assertEqual(all_told(store), after)
        self.undo_all(store, seen)

    def undo_all(self, store, seen):
        for before in reversed(seen[:-1]):
            self.assertIs(store.undo(), True)
            self.assertEqual(self.look(store), before)
        self.assertIs(store.undo(), False)
        self.assertEqual(all_told(store), seen[0])

    def deed_by_chance(self, chance, shop, store):
        plates = store.plates()
        if not plates or chance.random() < 0.3:
            return ("put", chance.randint(1, 15), chance.randint(1, 15))
        number, wide, high = chance.choice(plates)
        return ("cut", number, chance_tree(chance, shop, wide, high, chance.randint(0, 12)))

    def do(self, store, model, deed, chance):
        """Do a deed; the numbers that are told are the next ones."""
        upcoming = model.told()[1]
        model.deeds.append(deed)
        behind = model.told()[1]
        if deed[0] == "put":
            told = store.put(*deed[1:])
            self.assertEqual(told, upcoming)
        else:
            told = store.cut(deed[1], mixed(deed[2], chance))
            self.assertEqual(told, list(range(upcoming, behind)))
        return told

    def test_numbers_are_never_told_twice_without_an_undo(self):
        chance = random.Random(34)
        shop = Shop(0, KINDS)
        store = Store(shop, 1)
        numbers = []
        for _ in range(60):
            deed = self.deed_by_chance(chance, shop, store)
            numbers += [store.put(*deed[1:])] if deed[0] == "put" else store.cut(*deed[1:])
        self.assertEqual(numbers, list(range(len(numbers))))


class Promises(Looking):
    def setUp(self):
        self.shop = Shop(1, KINDS)
        self.store = Store(self.shop, 2)
        self.store.put(9, 7)
        self.store.put(5, 5)
        self.store.cut(0, ("down", 4, REST, REST))
        self.before = self.look(self.store)

    def unchanged(self):
        self.assertEqual(self.look(self.store), self.before)

    def test_two_stores_of_one_shop(self):
        other = Store(self.shop, 1)
        self.assertEqual(all_told(other), ([], [0, 0, 0], (0, 0, 0, 0)))
        self.assertEqual(other.put(3, 3), 0)
        self.assertEqual(other.cut(0, FLAT), [])
        self.unchanged()
        self.store.cut(1, FLAT)
        self.store.undo()
        self.assertEqual(all_told(other), ([], [1, 0, 0], (9, 0, 6, 3)))
        self.assertIs(other.undo(), True)
        self.assertIs(other.undo(), True)
        self.assertIs(other.undo(), False)
        self.unchanged()

    def test_told_lists_are_the_askers_own(self):
        self.store.plates().clear()
        self.store.made().clear()
        told = self.store.made()
        told[0] = 99
        self.store.plates().append((99, 1, 1))
        self.unchanged()
        numbers = self.store.cut(1, ("down", 2, REST, REST))
        after = self.look(self.store)
        self.assertEqual(numbers, [4, 5])
        numbers.clear()
        self.assertEqual(self.look(self.store), after)
        self.store.undo()
        self.unchanged()

    def test_trees_changed_behind(self):
        tree = as_lists(("down", 3, FLAT, ("across", 2, REST, REST)))
        before = copy.deepcopy(tree)
        self.store.put(9, 9)
        self.store.cut(4, tree)
        self.assertEqual(tree, before)
        after = self.look(self.store)
        tree[3][2][0] = "piece"
        tree[3].clear()
        tree.clear()
        self.assertEqual(self.look(self.store), after)
        self.store.undo()
        self.store.undo()
        self.unchanged()

    def test_the_shops_kinds_changed_behind(self):
        kinds = [list(kind) for kind in KINDS]
        store = Store(Shop(0, kinds), 1)
        store.put(3, 2)
        store.cut(0, FLAT)
        kinds[0][0] = 50
        kinds.clear()
        self.assertEqual(store.cells(), (6, 0, 6, 0))

    def test_no_number_of_the_least(self):
        for wrong in no_wholes(1):
            self.refused(NoNumber, Store, self.shop, wrong)

    def test_no_plate(self):
        for wrong in no_wholes(1):
            self.refused(NoPlate, self.store.put, wrong, 5)
            self.refused(NoPlate, self.store.put, 5, wrong)
            self.refused(NoPlate, self.store.put, wrong, wrong)
        self.unchanged()
        self.assertEqual(self.store.put(1, 1), 4)

    def test_no_number_comes_first(self):
        # Plates 1, 2 and 3 are there; 0 was cut.
        for wrong in no_wholes(0) + [0, 4, 5, SIXTY, HUGE, (1,), [2], "3", True]:
            for tree in (REST, FLAT, None, ("down", 1, None, None), 1):
                self.refused(NoNumber, self.store.cut, wrong, tree)
        self.unchanged()

    def test_no_number_where_truths_would_be_one(self):
        store = Store(self.shop, 1)
        store.put(3, 3)
        store.put(3, 3)
        self.refused(NoNumber, store.cut, False, REST)
        self.refused(NoNumber, store.cut, True, REST)
        self.assertEqual(store.cut(0, REST), [2])

    def test_no_tree(self):
        wrong = odd_things() + odd_texts() + odd_rows() + [0, 1, True, ("rest", 0), ("piece", 0, False, 3, 0), (),
                                                          ("piece", 0, 0, 0, 0), ("down", 4, REST, REST),
                                                          ("across", 0, REST, REST), ("piece", 1, True, 0, 0)]
        for thing in wrong:
            self.refused(NoTree, self.store.cut, 1, thing)
            self.refused(NoTree, self.store.cut, 1, ("down", 2, REST, thing))
            self.refused(NoTree, self.store.cut, 1, ["across", 2, FLAT, thing])
        self.unchanged()
        # What is a tree of one plate may be none of another.
        self.refused(NoTree, self.store.cut, 2, ("down", 3, REST, REST))
        self.unchanged()
        self.assertEqual(self.store.cut(1, ("down", 3, REST, REST)), [4])
        self.store.undo()
        self.unchanged()

    def test_a_refused_deed_is_none_to_undo(self):
        for deed, things in ((self.store.put, (0, 1)), (self.store.cut, (9, REST)), (self.store.cut, (1, None))):
            self.assertRaises(ValueError, deed, *things)
        for many in (3, 2, 1):
            self.assertIs(self.store.undo(), True)
        self.assertIs(self.store.undo(), False)

    def test_somewhat_beyond_sixty_deeds(self):
        store = Store(self.shop, 1)
        for number in range(90):
            self.assertEqual(store.put(2, 2), number)
        for _ in range(90):
            self.assertIs(store.undo(), True)
        self.assertIs(store.undo(), False)


if __name__ == "__main__":
    unittest.main()
