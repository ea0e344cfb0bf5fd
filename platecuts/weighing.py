"""What kinds weigh by weights of a plate, and the bounds that this sets to its worth and to the number of plates."""

from platecuts.checks import check_plate, check_sides
from platecuts.errors import NoWeights
from platecuts.loads import is_weights, load_of
from platecuts.parts import lyings_in

MOST_SIDE = 60


def check_weights(wide, high, u, v):
    """Refuse sides of no plate, a side above 60, and what are not the weights of its width and of its height."""
    check_plate(wide, high)
    check_sides(wide, high, MOST_SIDE)
    for side, weights in ((wide, u), (high, v)):
        if not is_weights(weights) or len(weights) != side:
            raise NoWeights("the weights of a plate are as many as it is wide, and as many as it is high")


def kind_weights(shop, wide, high, u, v):
    """What each kind weighs, a list; None of a kind that does not fit the plate."""
    check_weights(wide, high, u, v)
    told = [None for kind in shop.kinds()]
    for kind, turned in lyings_in(shop, (wide, high)):
        piece_wide, piece_high = shop.sides(kind, turned)
        weight = u[piece_wide - 1] * v[piece_high - 1]
        if told[kind] is None or weight < told[kind]:
            told[kind] = weight
    return told


def plate_load(shop, wide, high, u, v):
    """The load of the plate: no tree's pieces weigh more."""
    check_weights(wide, high, u, v)
    return load_of(shop.blade(), u, wide)[0] * load_of(shop.blade(), v, high)[0]


def bears_worth(shop, wide, high, u, v):
    """Tell whether each kind that fits the plate is worth no more than it weighs."""
    weights = kind_weights(shop, wide, high, u, v)
    return all([weight is None or kind[2] <= weight for kind, weight in zip(shop.kinds(), weights)])


def plates_by_weights(shop, wide, high, u, v):
    """The least number of plates whose loads are what all that is wanted weighs; None if some of that does not fit."""
    weights = kind_weights(shop, wide, high, u, v)
    whole = 0
    for many, weight in zip(shop.wanted(), weights):
        if many > 0:
            if weight is None:
                return None
            whole += many * weight
    if whole == 0:
        return 0
    # The load is not 0 here: a lying that weighs something fits the plate alone.
    load = plate_load(shop, wide, high, u, v)
    return (whole + load - 1) // load
