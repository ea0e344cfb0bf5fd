"""How few plates bear all that is wanted, with their trees."""

from platecuts.bundles import check_small, greatest_steps
from platecuts.parts import lyings_in
from platecuts.trees import PIECE, REST


def common(one, other):
    """What two bundles both have."""
    return tuple([min(few, many) for few, many in zip(one, other)])


def without(bundle, other):
    """What a bundle has more than another one."""
    return tuple([max(0, many - fewer) for many, fewer in zip(bundle, other)])


def all_wanted_fit(shop, plate):
    """Tell whether each kind of which more than 0 are wanted fits the plate."""
    fitting = [kind for kind, turned in lyings_in(shop, plate)]
    return all([many == 0 or kind in fitting for kind, many in enumerate(shop.wanted())])


def fewest_bundles(bundles, wanted):
    """As few of the bundles as come together to no less than what is wanted, each as often as needed: a list."""
    nought = tuple([0 for many in wanted])
    # Lots of as many bundles each, by what they leave missing: for what comes behind one of a sort is enough.
    lots = {wanted: []}
    while nought not in lots:
        longer = {}
        for missing, lot in lots.items():
            for bundle in bundles:
                longer.setdefault(without(missing, bundle), lot + [bundle])
        lots = longer
    return lots[nought]


def tree_by_bundle(found, part, greatest, bundle):
    """A tree of a part with just this bundle, by the step of a greatest one that has no less of any kind."""
    if sum(bundle) == 0:
        return (REST,)
    step = found[part][greatest]
    if step[0] == PIECE:
        return step
    way, p, (first, first_greatest), (second, second_greatest) = step
    ahead = common(bundle, first_greatest)
    behind = without(bundle, ahead)
    first_tree = tree_by_bundle(found, first, first_greatest, ahead)
    return (way, p, first_tree, tree_by_bundle(found, second, second_greatest, behind))


def fewest_of(shop, wide, high):
    """(many, trees): the fewest plates with all that is wanted; None if some of that does not fit."""
    check_small(shop, wide, high)
    plate = (wide, high)
    if not all_wanted_fit(shop, plate):
        return None
    found = greatest_steps(shop, wide, high)
    missing = shop.wanted()
    trees = []
    for greatest in fewest_bundles(list(found[plate]), missing):
        # The greatest bundles may come to more than is wanted; the trees have just that.
        bundle = common(missing, greatest)
        trees.append(tree_by_bundle(found, plate, greatest, bundle))
        missing = without(missing, bundle)
    return (len(trees), trees)
