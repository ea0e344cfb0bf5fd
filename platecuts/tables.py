"""Tables of a plate: a number for each part, and whether no part of the shop's is worth more."""

from platecuts.best import MOST_SIDE
from platecuts.checks import check_plate, check_sides, is_whole
from platecuts.errors import NoTable
from platecuts.parts import cuts_of, lyings_in, parts_up_to


def is_key(wide, high, thing):
    """Tell of anything whether it is a tuple (a, b) of the sides of a part of the plate."""
    if not isinstance(thing, tuple) or len(thing) != 2:
        return False
    a, b = thing
    return is_whole(a, 1) and is_whole(b, 1) and a <= wide and b <= high


def is_table(wide, high, thing):
    """Tell of anything whether it is a dict with a whole number for just the parts of the plate."""
    # No two keys of a dict are alike: so as many keys as there are parts are all of them.
    if not isinstance(thing, dict) or len(thing) != wide * high:
        return False
    return all([is_key(wide, high, key) and is_whole(number, 0) for key, number in thing.items()])


def bears_part(shop, part, table):
    """Tell whether no lying in the part, and no cut of it, comes to more than its number."""
    kinds = shop.kinds()
    for kind, turned in lyings_in(shop, part):
        if kinds[kind][2] > table[part]:
            return False
    for way, p, first, second in cuts_of(shop.blade(), part):
        if table[first] + table[second] > table[part]:
            return False
    return True


def bears(shop, wide, high, table):
    """Tell whether a table of the plate bears the shop."""
    check_plate(wide, high)
    check_sides(wide, high, MOST_SIDE)
    if not is_table(wide, high, table):
        raise NoTable("a table is a dict with a whole number from 0 on for just the parts of the plate")
    return all([bears_part(shop, part, table) for part in parts_up_to(wide, high)])
