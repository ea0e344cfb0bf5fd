"""What several test files need: odd things, a look at refusals, trees made by chance and looked at cell by cell."""

import functools
from fractions import Fraction

from platecuts.errors import PlateError
from platecuts.shops import Shop

HUGE = 10 ** 60 - 1
SIXTY = 123456789012345678901234567890123456789012345678901234567890


def shop_of_one():
    return Shop(1, [(3, 2, 5, 4, True)])


def endless_list():
    things = []
    things.append(things)
    return things


def deep_list(deep):
    thing = []
    for _ in range(deep):
        thing = [thing]
    return thing


def odd_things():
    """Things that are neither whole numbers, truths, texts, nor lists or tuples of kinds."""
    return [
        None, b"", b"1", b"12345", bytes([3, 2, 5, 4, 1]), bytearray(b"11111"),
        {}, {1: 1}, {0: (3, 2, 5, 4, True)}, {3: 0, 2: 0, 5: 0, 4: 0, True: 0},
        set(), {1}, frozenset([1]), range(3), range(1, 6), iter([1]), (n for n in [1]),
        1j, Fraction(1), object(), int, bool, len, Shop, ValueError("1"), NotImplemented, ...,
        shop_of_one(),
    ]


def odd_texts():
    return ["", " ", "0", "1", "-1", "a", "True", "False", "None", "turns", "stays", "12345"]


def odd_rows():
    """Lists and tuples that are neither a kind nor a list of kinds."""
    return [[], (), [[]], ((),), [0], [1], (1,), [True], [None], [1, 2], (1, True),
            endless_list(), deep_list(60)]


def no_wholes(least):
    """Things that are no whole number from least on."""
    below = [least - 1, least - 2, -1, -2, -17, -SIXTY, -HUGE]
    return below + [True, False] + odd_texts() + odd_rows() + odd_things()


def no_truths():
    """Things that are neither True nor False."""
    return [0, 1, -1, 2, SIXTY] + odd_texts() + odd_rows() + odd_things()


class Refusing:
    """For test cases: the refusal has to be of one class, not of a class under it."""

    def refused(self, error, deed, *things):
        with self.assertRaises(PlateError, msg=f"{things!r:.200}") as caught:
            deed(*things)
        self.assertIs(type(caught.exception), error, f"{things!r:.200}")


def as_lists(thing):
    """The same with lists for all tuples."""
    return [as_lists(inner) for inner in thing] if isinstance(thing, (list, tuple)) else thing


def as_tuples(thing):
    """The same with tuples for all lists."""
    return tuple([as_tuples(inner) for inner in thing]) if isinstance(thing, (list, tuple)) else thing


def mixed(thing, chance):
    """The same with lists and tuples as chance will have it."""
    if not isinstance(thing, (list, tuple)):
        return thing
    return chance.choice((list, tuple))([mixed(inner, chance) for inner in thing])


def is_all_tuples(thing):
    """Whether a tree, or what is like one, has plain tuples throughout, and words, ints and truths in them."""
    if type(thing) is tuple:
        return all(is_all_tuples(inner) for inner in thing)
    return type(thing) in (int, bool, str)


def with_one_changed(thing, other):
    """Of a nest of tuples: a list of (what stood there, the nest with other there), for each place in it."""
    found = [(thing, other)]
    if isinstance(thing, tuple):
        for at, inner in enumerate(thing):
            for was, changed in with_one_changed(inner, other):
                found.append((was, thing[:at] + (changed,) + thing[at + 1:]))
    return found


def sides_by_kind(shop, kind, turned):
    wide, high = shop.kinds()[kind][:2]
    return (high, wide) if turned else (wide, high)


def chance_leaf(chance, shop, wide, high):
    fitting = [lying for lying in shop.lyings()
               if sides_by_kind(shop, *lying)[0] <= wide and sides_by_kind(shop, *lying)[1] <= high]
    if not fitting or chance.random() < 0.3:
        return ("rest",)
    kind, turned = chance.choice(fitting)
    piece_wide, piece_high = sides_by_kind(shop, kind, turned)
    return ("piece", kind, turned, chance.randint(0, wide - piece_wide), chance.randint(0, high - piece_high))


def chance_tree(chance, shop, wide, high, cuts):
    """A tree with at most so many cuts."""
    blade = shop.blade()
    ways = [(way, side) for way, side in (("down", wide), ("across", high)) if side - blade >= 2]
    if cuts < 1 or not ways:
        return chance_leaf(chance, shop, wide, high)
    way, side = chance.choice(ways)
    p = chance.randint(1, side - blade - 1)
    ahead = chance.randint(0, cuts - 1)
    if way == "down":
        return (way, p, chance_tree(chance, shop, p, high, ahead),
                chance_tree(chance, shop, wide - p - blade, high, cuts - 1 - ahead))
    return (way, p, chance_tree(chance, shop, wide, p, ahead),
            chance_tree(chance, shop, wide, high - p - blade, cuts - 1 - ahead))


def cells_of(x, y, wide, high):
    return {(right, up) for right in range(x, x + wide) for up in range(y, y + high)}


def paint(shop, cells, tree):
    """What a tree makes of its part's cells: a list of (sort, cells), found cell by cell."""
    left, below = min(x for x, y in cells), min(y for x, y in cells)
    if tree[0] == "rest":
        return [("rest", cells)]
    if tree[0] == "piece":
        _, kind, turned, x, y = tree
        piece = cells_of(left + x, below + y, *sides_by_kind(shop, kind, turned))
        return [("piece", piece), ("margin", cells - piece)]
    way, p, first, second = tree
    axis, start = (0, left) if way == "down" else (1, below)
    ahead = {cell for cell in cells if cell[axis] < start + p}
    behind = {cell for cell in cells if cell[axis] >= start + p + shop.blade()}
    return paint(shop, ahead, first) + [("blade", cells - ahead - behind)] + paint(shop, behind, second)


def all_trees(shop, wide, high):
    """All trees of a part, one by one, but for where in their parts the pieces lie."""
    leaves = [("rest",)] + [("piece", kind, turned, 0, 0) for kind, turned in shop.lyings()
                            if sides_by_kind(shop, kind, turned)[0] <= wide
                            and sides_by_kind(shop, kind, turned)[1] <= high]
    blade = shop.blade()
    for leaf in leaves:
        yield leaf
    for p in range(1, wide - blade):
        for first in all_trees(shop, p, high):
            for second in all_trees(shop, wide - p - blade, high):
                yield ("down", p, first, second)
    for p in range(1, high - blade):
        for first in all_trees(shop, wide, p):
            for second in all_trees(shop, wide, high - p - blade):
                yield ("across", p, first, second)


def plain_worth(shop, tree):
    if tree[0] == "rest":
        return 0
    if tree[0] == "piece":
        return shop.kinds()[tree[1]][2]
    return plain_worth(shop, tree[2]) + plain_worth(shop, tree[3])


def plain_turns(tree):
    """The turns of a tree, by the words along each way to a leaf."""
    def ways(tree, ahead):
        if tree[0] in ("rest", "piece"):
            return [ahead]
        return ways(tree[2], ahead + tree[0][0]) + ways(tree[3], ahead + tree[0][0])
    return max(way.count("da") + way.count("ad") for way in ways(tree, ""))


def most_worth(shop):
    """A function of a part's sides that tells its most worth, reckoned from the whole to the parts."""
    lying_worths = [sides_by_kind(shop, kind, turned) + (shop.kinds()[kind][2],) for kind, turned in shop.lyings()]
    blade = shop.blade()

    @functools.lru_cache(maxsize=None)
    def most(wide, high):
        found = [worth for a, b, worth in lying_worths if a <= wide and b <= high] + [0]
        found += [most(p, high) + most(wide - p - blade, high) for p in range(1, wide) if wide - p - blade > 0]
        found += [most(wide, p) + most(wide, high - p - blade) for p in range(1, high) if high - p - blade > 0]
        return max(found)
    return most


def comb(ways, p, first, last):
    """A tree with a cut for each of the ways, all at p, each one in the second part of the one ahead."""
    tree = last
    for way in reversed(ways):
        tree = (way, p, first, tree)
    return tree


def bush(deep, p, leaf):
    """A tree of cuts down, the one below the next halving its part, so many deep: of a part 2 * p wide, no blade."""
    if deep == 0:
        return leaf
    return ("down", p, bush(deep - 1, p // 2, leaf), bush(deep - 1, p // 2, leaf))


def borne_bundles(shop):
    """A function of a part's sides that tells all bundles it bears, reckoned from the whole to the parts."""
    wanted = tuple(kind[3] for kind in shop.kinds())
    lyings = [sides_by_kind(shop, *lying) + (lying[0],) for lying in shop.lyings()]
    blade = shop.blade()

    def sums(some, others):
        both = {tuple(map(sum, zip(one, other))) for one in some for other in others}
        return {bundle for bundle in both if all(few <= most for few, most in zip(bundle, wanted))}

    @functools.lru_cache(maxsize=None)
    def borne(wide, high):
        found = {(0,) * len(wanted)}
        for a, b, kind in lyings:
            if a <= wide and b <= high and wanted[kind]:
                found.add((0,) * kind + (1,) + (0,) * (len(wanted) - kind - 1))
        for p in range(1, wide - blade):
            found |= sums(borne(p, high), borne(wide - p - blade, high))
        for p in range(1, high - blade):
            found |= sums(borne(wide, p), borne(wide, high - p - blade))
        return found
    return borne


def none_lesser(bundles):
    """Those of the bundles, sorted, than which none of them is greater."""
    return sorted(one for one in bundles if not any(
        one != other and all(few <= many for few, many in zip(one, other)) for other in bundles))


def chance_wanting(chance, most_side, most_wanted):
    """A shop with kinds of few sides, of which at most so many pieces are wanted together."""
    kinds = [(chance.randint(1, most_side), chance.randint(1, most_side), chance.randint(0, 9), chance.random() < 0.5)
             for _ in range(chance.randint(1, 8))]
    wanted = [0] * len(kinds)
    for _ in range(chance.randint(0, most_wanted)):
        wanted[chance.randrange(len(kinds))] += 1
    return Shop(chance.randint(0, 2), [kind[:3] + (many,) + kind[3:] for kind, many in zip(kinds, wanted)])


def sides_behind(blade, way, p, wide, high):
    """The sides of both parts of a cut."""
    if way == "down":
        return (p, high), (wide - p - blade, high)
    return (wide, p), (wide, high - p - blade)


def plain_leaves(blade, x, y, wide, high, tree):
    """All (x, y, wide, high, leaf) of a tree, that of the first part ahead of that of the second."""
    if tree[0] in ("rest", "piece"):
        return [(x, y, wide, high, tree)]
    way, p, first, second = tree
    ahead, behind = sides_behind(blade, way, p, wide, high)
    far = (x + p + blade, y) if way == "down" else (x, y + p + blade)
    return plain_leaves(blade, x, y, *ahead, first) + plain_leaves(blade, *far, *behind, second)
