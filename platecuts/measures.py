"""What is told of a tree of a plate: pieces, rests, counts, worth and areas."""

from platecuts.trees import REST, check_tree, leaves_of


def pieces_of(shop, wide, high, tree):
    """The pieces (kind, turned, x, y), sorted, their corners on the plate."""
    check_tree(shop, wide, high, tree)
    pieces = []
    for x, y, part_wide, part_high, leaf in leaves_of(shop, wide, high, tree):
        if leaf[0] != REST:
            word, kind, turned, piece_x, piece_y = leaf
            pieces.append((kind, turned, x + piece_x, y + piece_y))
    return sorted(pieces)


def rests_of(shop, wide, high, tree):
    """The rests (x, y, wide, high), sorted, their corners on the plate."""
    check_tree(shop, wide, high, tree)
    leaves = leaves_of(shop, wide, high, tree)
    return sorted([(x, y, part_wide, part_high) for x, y, part_wide, part_high, leaf in leaves if leaf[0] == REST])


def counts_of(shop, wide, high, tree):
    """How many pieces of each kind of the shop the tree has."""
    pieces = pieces_of(shop, wide, high, tree)
    counts = [0 for kind in shop.kinds()]
    for kind, turned, x, y in pieces:
        counts[kind] += 1
    return counts


def worth_of(shop, wide, high, tree):
    """The sum of the worth of the tree's pieces."""
    counts = counts_of(shop, wide, high, tree)
    return sum([count * kind[2] for count, kind in zip(counts, shop.kinds())])


def areas_of(shop, wide, high, tree):
    """How many cells pieces have, rests, margins, and what the blade takes."""
    check_tree(shop, wide, high, tree)
    pieces = rests = margins = 0
    for x, y, part_wide, part_high, leaf in leaves_of(shop, wide, high, tree):
        cells = part_wide * part_high
        if leaf[0] == REST:
            rests += cells
        else:
            piece_wide, piece_high = shop.sides(leaf[1], leaf[2])
            pieces += piece_wide * piece_high
            margins += cells - piece_wide * piece_high
    # The leaves' parts are all that the blade leaves of the plate.
    return (pieces, rests, margins, wide * high - pieces - rests - margins)
