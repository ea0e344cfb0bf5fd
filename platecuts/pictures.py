"""Pictures: a sign for each cell of a plate with small sides."""

from platecuts.checks import check_plate, check_sides
from platecuts.trees import REST, check_tree, leaves_of

MOST_SIDE = 60
LETTERS = "abcdefgh"
REST_SIGN = "."
MARGIN_SIGN = ","
BLADE_SIGN = "+"


def fill(rows, corner, sides, sign):
    """Set the sign in all cells of a rectangle, by its lower left corner and its sides."""
    x, y = corner
    wide, high = sides
    for up in range(y, y + high):
        for right in range(x, x + wide):
            rows[up][right] = sign


def fill_leaf(shop, rows, spot):
    """Set the signs of a rest, or of a piece and its margin."""
    x, y, wide, high, leaf = spot
    if leaf[0] == REST:
        fill(rows, (x, y), (wide, high), REST_SIGN)
    else:
        word, kind, turned, piece_x, piece_y = leaf
        fill(rows, (x, y), (wide, high), MARGIN_SIGN)
        fill(rows, (x + piece_x, y + piece_y), shop.sides(kind, turned), LETTERS[kind])


def picture(shop, wide, high, tree):
    """The picture of a tree of the plate: a list of texts, the topmost row first."""
    check_plate(wide, high)
    check_sides(wide, high, MOST_SIDE)
    check_tree(shop, wide, high, tree)
    # The leaves are all that the blade leaves, so what they do not fill is the blade's.
    rows = [[BLADE_SIGN for right in range(wide)] for up in range(high)]
    for spot in leaves_of(shop, wide, high, tree):
        fill_leaf(shop, rows, spot)
    return ["".join(row) for row in reversed(rows)]
