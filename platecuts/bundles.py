"""Bundles: how many pieces of each kind a part bears together, and the greatest of these."""

from platecuts.checks import check_plate, check_sides
from platecuts.errors import TooLarge
from platecuts.parts import cuts_of, lyings_in, parts_up_to
from platecuts.trees import PIECE, REST

MOST_SIDE = 8
MOST_WANTED = 6

# A step, below, is how a part comes to a bundle: a leaf, which is a tree, or a tuple (way, p, key, key), a cut and
# for each of both its parts a key (part, one of its greatest bundles).


def check_small(shop, wide, high):
    """Refuse sides of no plate, a side above 8, and more than 6 pieces wanted together."""
    check_plate(wide, high)
    check_sides(wide, high, MOST_SIDE)
    if sum(shop.wanted()) > MOST_WANTED:
        raise TooLarge(f"more than {MOST_WANTED} pieces are wanted together")


def bundle_of_one(wanted, kind):
    """The bundle of one piece of a kind."""
    return tuple([1 if number == kind else 0 for number in range(len(wanted))])


def joined(one, other, wanted):
    """Two bundles together, cut down to what is wanted."""
    return tuple([min(few + more, most) for few, more, most in zip(one, other, wanted)])


def is_lesser(one, other):
    """Tell whether a bundle has less than another one of some kind and more of none."""
    return one != other and all([few <= many for few, many in zip(one, other)])


def steps_of_part(shop, part, found):
    """A dict with a step for each bundle that a leaf bears, or a cut by the greatest bundles found of both parts."""
    wanted = shop.wanted()
    steps = {tuple([0 for many in wanted]): (REST,)}
    for kind, turned in lyings_in(shop, part):
        if wanted[kind] > 0:
            steps.setdefault(bundle_of_one(wanted, kind), (PIECE, kind, turned, 0, 0))
    for way, p, first, second in cuts_of(shop.blade(), part):
        for one in found[first]:
            for other in found[second]:
                steps.setdefault(joined(one, other, wanted), (way, p, (first, one), (second, other)))
    return steps


def greatest_alone(steps):
    """Those steps, sorted by their bundles, whose bundles are lesser than none of the others."""
    greatest = [one for one in sorted(steps) if not any([is_lesser(one, other) for other in steps])]
    return {bundle: steps[bundle] for bundle in greatest}


def greatest_steps(shop, wide, high):
    """A dict with, of each part of the plate, a dict with a step for each of its greatest bundles, sorted."""
    found = {}
    for part in parts_up_to(wide, high):
        found[part] = greatest_alone(steps_of_part(shop, part, found))
    return found


def greatest_bundles(shop, wide, high):
    """A dict with the list of the greatest bundles, sorted, of each part of the plate."""
    check_small(shop, wide, high)
    found = greatest_steps(shop, wide, high)
    return {part: list(steps) for part, steps in found.items()}
