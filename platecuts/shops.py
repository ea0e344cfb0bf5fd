"""Shops: a blade, the kinds of pieces, and how these may lie."""

from platecuts.checks import is_row, is_truth, is_whole
from platecuts.errors import NoBlade, NoKind, NoKinds, NoLying

MOST_KINDS = 8
THINGS_OF_A_KIND = 5


def is_kind(thing):
    """Tell of anything whether it is a kind (wide, high, worth, wanted, turns)."""
    if not is_row(thing) or len(thing) != THINGS_OF_A_KIND:
        return False
    wide, high, worth, wanted, turns = thing
    if not is_whole(wide, 1) or not is_whole(high, 1):
        return False
    return is_whole(worth, 0) and is_whole(wanted, 0) and is_truth(turns)


def can_lie_turned(kind):
    """Tell whether turning a piece of the kind is allowed and makes a difference."""
    return kind[4] and kind[0] != kind[1]


class Shop:
    """A blade and 1 to 8 kinds of pieces, numbered from 0."""

    def __init__(self, blade, kinds):
        if not is_whole(blade, 0):
            raise NoBlade("a blade is a whole number from 0 on")
        if not is_row(kinds) or not 1 <= len(kinds) <= MOST_KINDS:
            raise NoKinds("a shop has a list of 1 to 8 kinds")
        for kind in kinds:
            if not is_kind(kind):
                raise NoKind("a kind is (wide, high, worth, wanted, turns)")
        self.blade_width = blade
        # Tuples of its own: later changes of the lists that were handed in must not reach the shop.
        self.kind_rows = tuple([tuple(kind) for kind in kinds])

    def blade(self):
        """The width of the blade."""
        return self.blade_width

    def kinds(self):
        """A new list of the kinds, in their order."""
        return list(self.kind_rows)

    def wanted(self):
        """How many pieces of each kind are wanted: a tuple."""
        return tuple([kind[3] for kind in self.kind_rows])

    def lyings(self):
        """A new list of all lyings (kind, turned), sorted."""
        told = []
        for number, kind in enumerate(self.kind_rows):
            told.append((number, False))
            if can_lie_turned(kind):
                told.append((number, True))
        return told

    def is_lying(self, kind, turned):
        """Tell of any two things whether they are a lying of this shop."""
        if not is_whole(kind, 0) or kind >= len(self.kind_rows) or not is_truth(turned):
            return False
        return not turned or can_lie_turned(self.kind_rows[kind])

    def sides(self, kind, turned):
        """The sides (wide, high) of a lying."""
        if not self.is_lying(kind, turned):
            raise NoLying("a lying is the number of a kind, and whether it is turned, where it may be")
        row = self.kind_rows[kind]
        if turned:
            return (row[1], row[0])
        return (row[0], row[1])
