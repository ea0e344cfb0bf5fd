"""Turns of direction: how many a tree has, and the most worth with few of them."""

from platecuts.best import MOST_SIDE, best_leaf, best_step, tree_by_steps
from platecuts.checks import check_plate, check_sides, is_whole
from platecuts.errors import NoNumber
from platecuts.parts import ACROSS, DOWN, WAYS, cuts_of, parts_up_to
from platecuts.trees import check_tree

MOST_TURNS = 32


def turns_of(shop, wide, high, tree):
    """The greatest number of turns on the ways from the whole of a tree of the plate to its leaves."""
    check_tree(shop, wide, high, tree)
    most = 0
    waiting = [(tree, None, 0)]
    while waiting:
        part_tree, way_ahead, turns = waiting.pop()
        most = max(most, turns)
        way = part_tree[0]
        if way in WAYS:
            if way_ahead is not None and way_ahead != way:
                turns += 1
            waiting.extend([(part_tree[2], way, turns), (part_tree[3], way, turns)])
    return most


def cuts_by_turns(cuts, way_ahead, left):
    """Those of a part's cuts that so many turns left allow, with the keys (part, way of the cut, turns left)."""
    allowed = []
    for way, p, first, second in cuts:
        still_left = left if way == way_ahead else left - 1
        if still_left >= 0:
            allowed.append((way, p, (first, way, still_left), (second, way, still_left)))
    return allowed


def best_by_turns(shop, wide, high, k):
    """(worth, tree): the most worth of the trees of the plate with at most k turns, and such a tree."""
    check_plate(wide, high)
    check_sides(wide, high, MOST_SIDE)
    if not is_whole(k, 0) or k > MOST_TURNS:
        raise NoNumber("the number of turns is a whole number from 0 to 32")
    worths = {}
    steps = {}
    for part in parts_up_to(wide, high):
        leaf_found = best_leaf(shop, part)
        cuts = cuts_of(shop.blade(), part)
        for left in range(k + 1):
            for way in WAYS:
                worth, step = best_step(leaf_found, cuts_by_turns(cuts, way, left), worths)
                worths[(part, way, left)] = worth
                steps[(part, way, left)] = step
    # No cut is ahead of the first one. A first cut of either way is no turn behind one of the same way.
    key = ((wide, high), DOWN, k)
    other = ((wide, high), ACROSS, k)
    if worths[other] > worths[key]:
        key = other
    return (worths[key], tree_by_steps(steps, key))
