"""Point 15: weights, sides, lengths that fit, and loads."""

import copy
import itertools
import random
import unittest

from platecuts.errors import NoBlade, NoNumber, NoWeights
from platecuts.loads import load_of

from things import HUGE, SIXTY, Refusing, no_wholes, odd_rows, odd_texts, odd_things


def lots_that_fit(blade, side):
    """All lots of lengths that fit a side, one by one."""
    for many in range(side + 1):
        for lot in itertools.combinations_with_replacement(range(1, side + 1), many):
            if sum(lot) + blade * max(0, many - 1) <= side:
                yield lot


def no_weights():
    """Things that are no weights, whatever the side."""
    wrong = [thing for thing in odd_rows() if thing not in ([0], [1], (1,), [1, 2])]
    wrong += odd_things() + odd_texts() + [0, 1, 5, True, False, None, HUGE, -1]
    wrong += [[0] * 61, (1,) * 61, list(range(70)), [[1, 2, 3]], ([1], [2])]
    for thing in no_wholes(0):
        wrong += [[thing], (3, thing), [thing, 3], [1, thing, 2], [1] * 59 + [thing]]
    return wrong


class Loads(Refusing, unittest.TestCase):
    def look(self, blade, weights, side):
        """The load that is told, when the lengths told fit and weigh as much; for lists and tuples of weights."""
        loads = []
        for form in (list(weights), tuple(weights)):
            told = load_of(blade, form, side)
            self.assertEqual(form, type(form)(weights))
            self.assertIs(type(told), tuple)
            load, lengths = told
            self.assertIs(type(load), int)
            self.assertIs(type(lengths), list)
            self.assertTrue(all(type(length) is int and length >= 1 for length in lengths))
            self.assertEqual(lengths, sorted(lengths))
            self.assertLessEqual(sum(lengths) + blade * max(0, len(lengths) - 1), side)
            self.assertEqual(sum(weights[length - 1] for length in lengths), load)
            loads.append(load)
        self.assertEqual(loads[0], loads[1])
        return loads[0]

    def test_one_weight(self):
        for blade in (0, 1, 2, SIXTY, HUGE):
            for weight in (0, 1, 7, SIXTY, HUGE):
                self.assertEqual(self.look(blade, [weight], 1), weight)

    def test_known_ones(self):
        weights = [0, 3, 4, 7, 0, 1]
        self.assertEqual([self.look(0, weights, side) for side in range(1, 7)], [0, 3, 4, 7, 7, 10])
        self.assertEqual([self.look(1, weights, side) for side in range(1, 7)], [0, 3, 4, 7, 7, 7])
        self.assertEqual([self.look(2, weights, side) for side in range(1, 7)], [0, 3, 4, 7, 7, 7])
        self.assertEqual(load_of(0, weights, 2), (3, [2]))
        self.assertEqual(load_of(1, [0, 5, 1, 1, 2], 5), (10, [2, 2]))
        self.assertEqual(self.look(1, [0, 5, 1, 1, 2], 4), 5)

    def test_noughts(self):
        for many in (1, 2, 30, 60):
            for side in {1, many // 2 + 1, many}:
                self.assertEqual(self.look(0, [0] * many, side), 0)
                self.assertEqual(self.look(1, [0] * many, side), 0)

    def test_all_lots_one_by_one(self):
        chance = random.Random(20)
        lots = {(blade, side): list(lots_that_fit(blade, side)) for blade in range(10) for side in range(1, 9)}
        for round_ in range(60):
            weights = [chance.choice((0, 0, 1, chance.randint(0, 9), chance.randint(0, 40), SIXTY))
                       for _ in range(chance.randint(8, 12))]
            if round_ % 2:
                weights.sort()
            for (blade, side), fitting in lots.items():
                most = max(sum(weights[length - 1] for length in lot) for lot in fitting)
                self.assertEqual(self.look(blade, weights, side), most, (blade, weights, side))

    def test_each_side_of_sixty_weights(self):
        for blade in range(4):
            weights = [1] * 60
            for side in range(1, 61):
                self.assertEqual(self.look(blade, weights, side), (side + blade) // (1 + blade))
        for blade in (59, 60, 61, SIXTY, HUGE):
            weights = [(7 * length) % 61 for length in range(1, 61)]
            for side in range(1, 61):
                self.assertEqual(self.look(blade, weights, side), max(weights[:side]))
        self.assertEqual(self.look(58, [1] * 60, 60), 2)
        self.assertEqual(self.look(59, [1] * 60, 60), 1)

    def test_only_lengths_up_to_the_side(self):
        self.assertEqual(self.look(0, [1, 1, 1, 99], 3), 3)
        self.assertEqual(self.look(0, [1, 1, 1, 99], 4), 99)

    def test_more_than_the_blade_lets(self):
        # Both ends of a row need no blade: it lies between neighbours alone.
        self.assertEqual(self.look(2, [0, 4, 0, 0, 0, 0, 0, 0, 0, 0], 6), 8)
        self.assertEqual(self.look(2, [0, 4, 0, 0, 0, 0, 0, 0, 0, 0], 9), 8)
        self.assertEqual(self.look(2, [0, 4, 0, 0, 0, 0, 0, 0, 0, 0], 10), 12)

    def test_sixty_figures(self):
        weights = [SIXTY] * 60
        self.assertEqual(self.look(0, weights, 60), 60 * SIXTY)
        self.assertEqual(self.look(1, weights, 60), 30 * SIXTY)
        self.assertEqual(self.look(1, weights[:59] + [HUGE], 60), max(30 * SIXTY, HUGE))
        self.assertEqual(self.look(HUGE, weights[:59] + [HUGE], 60), HUGE)
        self.assertEqual(self.look(0, [HUGE] + [0] * 59, 60), 60 * HUGE)

    def test_no_less_with_more(self):
        chance = random.Random(21)
        for _ in range(40):
            weights = [chance.randint(0, 50) for _ in range(chance.randint(1, 60))]
            blade = chance.randint(0, 6)
            loads = [self.look(blade, weights, side) for side in range(1, len(weights) + 1)]
            self.assertEqual(loads, sorted(loads))
            for ahead in range(1, len(weights)):
                behind = len(weights) - ahead - blade
                if behind >= 1:
                    self.assertLessEqual(loads[ahead - 1] + loads[behind - 1], loads[-1])

    def test_told_lists_are_the_askers_own(self):
        weights = [1, 3, 4, 7]
        load, lengths = load_of(0, weights, 4)
        kept = list(lengths)
        lengths.clear()
        weights_before = list(weights)
        self.assertEqual(load_of(0, weights, 4), (load, kept))
        self.assertEqual(weights, weights_before)
        told = load_of(0, weights, 4)
        weights.clear()
        self.assertEqual(told, (load, kept))

    def test_no_blade(self):
        for wrong in no_wholes(0):
            self.refused(NoBlade, load_of, wrong, [1, 2], 1)
            self.refused(NoBlade, load_of, wrong, None, 1)
            self.refused(NoBlade, load_of, wrong, [], None)

    def test_no_weights(self):
        for wrong in no_weights():
            before = repr(wrong)
            self.refused(NoWeights, load_of, 0, wrong, 1)
            self.refused(NoWeights, load_of, HUGE, wrong, None)
            self.assertEqual(repr(wrong), before)

    def test_no_number(self):
        for weights in ([1], (1, 2), [0] * 60):
            for wrong in no_wholes(1) + [len(weights) + 1, len(weights) + 2, 61, SIXTY, HUGE]:
                self.refused(NoNumber, load_of, 0, weights, wrong)
            before = copy.deepcopy(weights)
            load_of(0, weights, len(weights))
            self.assertEqual(weights, before)


if __name__ == "__main__":
    unittest.main()
