"""Layings led to a tree of cuts, or shown to have none by a knot."""

from platecuts.errors import NoLaying
from platecuts.layings import is_laying, spans_of
from platecuts.parts import DOWN, WAYS
from platecuts.trees import PIECE, REST

TREE = "tree"
KNOT = "knot"


def parting_place(blade, spans):
    """The least place at which a cut parts the spans, which is right behind one of them; None if nowhere."""
    ordered = sorted(spans)
    reach = ordered[0][1]
    for start, end in ordered[1:]:
        if start >= reach + blade:
            return reach
        reach = max(reach, end)
    return None


def parting_cut(shop, pieces):
    """A cut that parts the pieces: (way, place on the plate, pieces ahead, pieces behind); None if none does."""
    spans = [spans_of(shop, piece) for piece in pieces]
    for axis, way in enumerate(WAYS):
        place = parting_place(shop.blade(), [both[axis] for both in spans])
        if place is not None:
            ahead = [piece for piece, both in zip(pieces, spans) if both[axis][1] <= place]
            behind = [piece for piece, both in zip(pieces, spans) if both[axis][1] > place]
            return (way, place, ahead, behind)
    return None


def leaf_of(x, y, pieces):
    """The tree, without a cut, of a part with its corner at (x, y) and at most one piece."""
    if not pieces:
        return (REST,)
    kind, turned, piece_x, piece_y = pieces[0]
    return (PIECE, kind, turned, piece_x - x, piece_y - y)


def part_pieces(shop, x, y, pieces):
    """The tree of the part with its corner at (x, y) that the pieces lie in, or a knot of them."""
    if len(pieces) < 2:
        return (TREE, leaf_of(x, y, pieces))
    cut = parting_cut(shop, pieces)
    if cut is None:
        return (KNOT, sorted(pieces))
    way, place, ahead, behind = cut
    first = part_pieces(shop, x, y, ahead)
    if first[0] == KNOT:
        return first
    step = place + shop.blade()
    second = part_pieces(shop, step, y, behind) if way == DOWN else part_pieces(shop, x, step, behind)
    if second[0] == KNOT:
        return second
    return (TREE, (way, place - x if way == DOWN else place - y, first[1], second[1]))


def tree_or_knot(shop, wide, high, laying):
    """Of a laying on the plate: ("tree", a tree with its pieces), or ("knot", some pieces that no cut parts)."""
    if not is_laying(shop, wide, high, laying):
        raise NoLaying("a laying is a list of pieces on the plate, no cell in two of them")
    return part_pieces(shop, 0, 0, [tuple(piece) for piece in laying])
