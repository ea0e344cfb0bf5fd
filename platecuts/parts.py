"""Parts of plates: what lies in them, and the cuts that they allow."""

from platecuts.checks import is_whole

DOWN = "down"
ACROSS = "across"
WAYS = (DOWN, ACROSS)


def lies_in(shop, wide, high, kind, turned, x, y):
    """Tell of any four things whether they are a lying and a corner from which it lies in the part wholly."""
    if not shop.is_lying(kind, turned) or not is_whole(x, 0) or not is_whole(y, 0):
        return False
    piece_wide, piece_high = shop.sides(kind, turned)
    return x + piece_wide <= wide and y + piece_high <= high


def lyings_in(shop, part):
    """The lyings that fit in a part, sorted."""
    wide, high = part
    return [(kind, turned) for kind, turned in shop.lyings() if lies_in(shop, wide, high, kind, turned, 0, 0)]


def cut_parts(blade, part, way, p):
    """The sides of both parts that a cut leaves, of the one ahead of the blade first."""
    wide, high = part
    if way == DOWN:
        return ((p, high), (wide - p - blade, high))
    return ((wide, p), (wide, high - p - blade))


def cuts_of(blade, part):
    """All cuts of a part: a list of tuples (way, p, first part, second part)."""
    down = [(DOWN, p) for p in range(1, part[0] - blade)]
    across = [(ACROSS, p) for p in range(1, part[1] - blade)]
    return [(way, p) + cut_parts(blade, part, way, p) for way, p in down + across]


def parts_up_to(wide, high):
    """All parts (a, b) no wider and no higher than told, each behind those that its cuts leave."""
    return [(a, b) for a in range(1, wide + 1) for b in range(1, high + 1)]
