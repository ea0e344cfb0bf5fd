"""The most worth of a plate, with a tree that is worth it and a table of all its parts."""

from platecuts.checks import check_plate, check_sides
from platecuts.parts import WAYS, cuts_of, lyings_in, parts_up_to
from platecuts.trees import PIECE, REST

MOST_SIDE = 16

# A step, below, is what is done first with a part: a leaf, which is a tree, or a tuple (way, p, key, key), a cut
# and the keys under which the steps of both its parts are kept.


def best_leaf(shop, part):
    """(worth, leaf): a piece that is worth most of those that fit in the part, or a rest."""
    worth, leaf = 0, (REST,)
    kinds = shop.kinds()
    for kind, turned in lyings_in(shop, part):
        if kinds[kind][2] > worth:
            worth, leaf = kinds[kind][2], (PIECE, kind, turned, 0, 0)
    return (worth, leaf)


def best_step(leaf_found, cuts, worths):
    """(worth, step): the best leaf of a part, or one of its cuts if that is worth more."""
    worth, step = leaf_found
    for cut in cuts:
        together = worths[cut[2]] + worths[cut[3]]
        if together > worth:
            worth, step = together, cut
    return (worth, step)


def tree_by_steps(steps, key):
    """The tree to which the steps lead from the one with this key."""
    step = steps[key]
    if step[0] not in WAYS:
        return step
    way, p, first, second = step
    return (way, p, tree_by_steps(steps, first), tree_by_steps(steps, second))


def best_of(shop, wide, high):
    """(worth, tree, table): the most worth of the plate, a tree worth it, the most worth of each part."""
    check_plate(wide, high)
    check_sides(wide, high, MOST_SIDE)
    blade = shop.blade()
    table = {}
    steps = {}
    for part in parts_up_to(wide, high):
        worth, step = best_step(best_leaf(shop, part), cuts_of(blade, part), table)
        table[part] = worth
        steps[part] = step
    plate = (wide, high)
    return (table[plate], tree_by_steps(steps, plate), table)
