"""Layings: pieces that lie on a plate, no cell in two of them."""

from platecuts.checks import check_plate, is_row
from platecuts.parts import lies_in

THINGS_OF_A_PIECE = 4


def is_placed(shop, wide, high, thing):
    """Tell of anything whether it is a piece (kind, turned, x, y) that lies on the plate wholly."""
    if not is_row(thing) or len(thing) != THINGS_OF_A_PIECE:
        return False
    return lies_in(shop, wide, high, thing[0], thing[1], thing[2], thing[3])


def spans_of(shop, piece):
    """The columns and the rows of a piece, each as a tuple (the first one, the one behind the last)."""
    kind, turned, x, y = piece
    wide, high = shop.sides(kind, turned)
    return ((x, x + wide), (y, y + high))


def meet(one, other):
    """Tell whether two spans have a column, or a row, in common."""
    return one[0] < other[1] and other[0] < one[1]


def is_laying(shop, wide, high, thing):
    """Tell of anything whether it is a laying on the plate."""
    check_plate(wide, high)
    if not is_row(thing) or not all([is_placed(shop, wide, high, piece) for piece in thing]):
        return False
    spans = [spans_of(shop, piece) for piece in thing]
    for at, (columns, rows) in enumerate(spans):
        for other_columns, other_rows in spans[:at]:
            if meet(columns, other_columns) and meet(rows, other_rows):
                return False
    return True
