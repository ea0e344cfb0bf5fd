"""Trees of cuts: what they are, and the leaves that they lead to."""

from platecuts.checks import check_plate, is_row, is_whole
from platecuts.errors import NoTree
from platecuts.parts import DOWN, WAYS, cut_parts, lies_in

REST = "rest"
PIECE = "piece"
THINGS_OF_A_REST = 1
THINGS_OF_A_PIECE = 5
THINGS_OF_A_CUT = 4

# A spot, below, is a tuple (x, y, wide, high, tree): a part, by its lower left corner on the plate, and what
# is said to be its tree. Spots wait in lists, as a tree may be nested deeper than calls had better be.


def begins_with(thing, word, many):
    """Tell of anything whether it is a list or tuple of so many things, the first of them the word."""
    if not is_row(thing) or len(thing) != many:
        return False
    # Things of other kinds may claim to be equal to a word.
    return isinstance(thing[0], str) and thing[0] == word


def is_cut(blade, spot):
    """Tell whether the spot's tree is a cut that its part allows, whatever both its trees are."""
    tree = spot[4]
    for way in WAYS:
        if begins_with(tree, way, THINGS_OF_A_CUT):
            side = spot[2] if way == DOWN else spot[3]
            return is_whole(tree[1], 1) and tree[1] + blade < side
    return False


def is_leaf(shop, spot):
    """Tell whether the spot's tree is a rest, or a piece that lies in the part."""
    x, y, wide, high, tree = spot
    if begins_with(tree, PIECE, THINGS_OF_A_PIECE):
        return lies_in(shop, wide, high, tree[1], tree[2], tree[3], tree[4])
    return begins_with(tree, REST, THINGS_OF_A_REST)


def spots_behind(blade, spot):
    """Both spots that the cut of a spot leaves."""
    x, y, wide, high, tree = spot
    way, p, first, second = tree
    (wide_ahead, high_ahead), (wide_behind, high_behind) = cut_parts(blade, (wide, high), way, p)
    step = p + blade
    far_x, far_y = (x + step, y) if way == DOWN else (x, y + step)
    return [(x, y, wide_ahead, high_ahead, first), (far_x, far_y, wide_behind, high_behind, second)]


def is_tree(shop, wide, high, thing):
    """Tell of anything whether it is a tree of the plate."""
    check_plate(wide, high)
    blade = shop.blade()
    waiting = [(0, 0, wide, high, thing)]
    while waiting:
        spot = waiting.pop()
        if is_cut(blade, spot):
            waiting.extend(spots_behind(blade, spot))
        elif not is_leaf(shop, spot):
            return False
    return True


def check_tree(shop, wide, high, thing):
    """Refuse sides of no plate, and anything that is no tree of the plate."""
    if not is_tree(shop, wide, high, thing):
        raise NoTree("a tree of a plate is a rest, a piece or a cut, each in its part")


def leaves_of(shop, wide, high, tree):
    """The spots of all rests and pieces of a tree of the plate."""
    leaves = []
    waiting = [(0, 0, wide, high, tree)]
    while waiting:
        spot = waiting.pop()
        if spot[4][0] in WAYS:
            waiting.extend(spots_behind(shop.blade(), spot))
        else:
            leaves.append(spot)
    return leaves
