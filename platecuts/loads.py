"""Weights on lengths, and the load of a side by them."""

from platecuts.checks import is_row, is_whole
from platecuts.errors import NoBlade, NoNumber, NoWeights

MOST_WEIGHTS = 60


def is_weights(thing):
    """Tell of anything whether it is 1 to 60 weights: the one of length 1 first."""
    if not is_row(thing) or not 1 <= len(thing) <= MOST_WEIGHTS:
        return False
    return all([is_whole(weight, 0) for weight in thing])


def best_length(blade, weights, loads, side):
    """(load, length): the load of a side by those of the lesser sides, and a length to begin with, or 0 for none."""
    load, length = 0, 0
    for first in range(1, side + 1):
        # Where the blade leaves nothing behind the length, nothing more fits: that is the load of side 0.
        behind = max(0, side - first - blade)
        together = weights[first - 1] + loads[behind]
        if together > load:
            load, length = together, first
    return (load, length)


def lengths_by_steps(blade, steps, side):
    """The lengths, rising, to which the steps lead from a side."""
    lengths = []
    while side > 0 and steps[side] > 0:
        length = steps[side]
        lengths.append(length)
        side -= length + blade
    return sorted(lengths)


def load_of(blade, weights, side):
    """(load, lengths): the load of a side by the weights, and lengths, rising, that fit it and weigh as much."""
    if not is_whole(blade, 0):
        raise NoBlade("a blade is a whole number from 0 on")
    if not is_weights(weights):
        raise NoWeights("weights are a list of 1 to 60 whole numbers from 0 on")
    if not is_whole(side, 1) or side > len(weights):
        raise NoNumber("a side is a whole number from 1 to how many weights there are")
    loads = [0]
    steps = [0]
    for reach in range(1, side + 1):
        load, length = best_length(blade, weights, loads, reach)
        loads.append(load)
        steps.append(length)
    return (loads[side], lengths_by_steps(blade, steps, side))
