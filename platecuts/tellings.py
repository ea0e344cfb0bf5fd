"""Tellings: what is the same of all trees that differ only in the order of their cuts and parts."""

from platecuts.checks import check_plate, is_row, is_whole
from platecuts.errors import NoTelling
from platecuts.parts import DOWN, WAYS, cut_parts
from platecuts.trees import begins_with, check_tree, is_leaf

THINGS_OF_A_CUT_TELLING = 2
LEAST_IN_A_ROW = 2


def side_along(part, way):
    """The side of a part that cuts of a way divide."""
    return part[0] if way == DOWN else part[1]


def part_along(part, way, size):
    """The part of this size that cuts of a way leave of a part."""
    return (size, part[1]) if way == DOWN else (part[0], size)


def telling_of_part(blade, part, tree):
    """The telling of a tree of a part."""
    way = tree[0]
    if way not in WAYS:
        return tuple(tree)
    row = []
    waiting = [(part, tree)]
    while waiting:
        inner_part, inner_tree = waiting.pop()
        if inner_tree[0] == way:
            first, second = cut_parts(blade, inner_part, way, inner_tree[1])
            waiting.extend([(first, inner_tree[2]), (second, inner_tree[3])])
        else:
            row.append((side_along(inner_part, way), telling_of_part(blade, inner_part, inner_tree)))
    return (way, tuple(sorted(row)))


def telling_of(shop, wide, high, tree):
    """The telling of a tree of the plate."""
    check_tree(shop, wide, high, tree)
    return telling_of_part(shop.blade(), (wide, high), tree)


def way_of(thing):
    """The way of anything that begins like the telling of a cut, else None."""
    for way in WAYS:
        if begins_with(thing, way, THINGS_OF_A_CUT_TELLING):
            return way
    return None


def is_sized(way, thing):
    """Tell of anything whether it is (size, what is not of the same way), whatever that is else."""
    return is_row(thing) and len(thing) == 2 and is_whole(thing[0], 1) and way_of(thing[1]) != way


def is_divided(blade, side, way, row):
    """Tell of anything whether it is a row whose sizes, with the blade between each two, come to the side."""
    if not is_row(row) or len(row) < LEAST_IN_A_ROW or not all([is_sized(way, thing) for thing in row]):
        return False
    return sum([thing[0] for thing in row]) + blade * (len(row) - 1) == side


def as_telling(shop, part, thing):
    """A telling of a part as tuples throughout; anything else is refused."""
    way = way_of(thing)
    if way is None:
        if not is_leaf(shop, (0, 0, part[0], part[1], thing)):
            raise NoTelling("a telling is a rest, a piece in its part, or a way and a row")
        return tuple(thing)
    # The sizes come first: where they come to the side, each part is smaller, and a list within itself is refused.
    if not is_divided(shop.blade(), side_along(part, way), way, thing[1]):
        raise NoTelling("a row has two or more things, none of its own way, that come to the side of the part")
    row = [(size, as_telling(shop, part_along(part, way, size), inner)) for size, inner in thing[1]]
    if row != sorted(row):
        raise NoTelling("a row is sorted")
    return (way, tuple(row))


def tree_by_telling(telling):
    """The tree that lays the things of each row of a telling one behind another, in order."""
    way = telling[0]
    if way not in WAYS:
        return telling
    trees = [(size, tree_by_telling(inner)) for size, inner in telling[1]]
    tree = trees[-1][1]
    for size, ahead in reversed(trees[:-1]):
        tree = (way, size, ahead, tree)
    return tree


def tree_told(shop, wide, high, telling):
    """A tree of the plate that has the telling."""
    check_plate(wide, high)
    return tree_by_telling(as_telling(shop, (wide, high), telling))
