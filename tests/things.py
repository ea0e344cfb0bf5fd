"""What several test files need: odd things, and a look at refusals."""

from fractions import Fraction

from platecuts.errors import PlateError
from platecuts.shops import Shop

HUGE = 10 ** 60 - 1
SIXTY = 123456789012345678901234567890123456789012345678901234567890


def shop_of_one():
    return Shop(1, [(3, 2, 5, 4, True)])


def endless_list():
    things = []
    things.append(things)
    return things


def deep_list(deep):
    thing = []
    for _ in range(deep):
        thing = [thing]
    return thing


def odd_things():
    """Things that are neither whole numbers, truths, texts, nor lists or tuples of kinds."""
    return [
        None, b"", b"1", b"12345", bytes([3, 2, 5, 4, 1]), bytearray(b"11111"),
        {}, {1: 1}, {0: (3, 2, 5, 4, True)}, {3: 0, 2: 0, 5: 0, 4: 0, True: 0},
        set(), {1}, frozenset([1]), range(3), range(1, 6), iter([1]), (n for n in [1]),
        1j, Fraction(1), object(), int, bool, len, Shop, ValueError("1"), NotImplemented, ...,
        shop_of_one(),
    ]


def odd_texts():
    return ["", " ", "0", "1", "-1", "a", "True", "False", "None", "turns", "stays", "12345"]


def odd_rows():
    """Lists and tuples that are neither a kind nor a list of kinds."""
    return [[], (), [[]], ((),), [0], [1], (1,), [True], [None], [1, 2], (1, True),
            endless_list(), deep_list(60)]


def no_wholes(least):
    """Things that are no whole number from least on."""
    below = [least - 1, least - 2, -1, -2, -17, -SIXTY, -HUGE]
    return below + [True, False] + odd_texts() + odd_rows() + odd_things()


def no_truths():
    """Things that are neither True nor False."""
    return [0, 1, -1, 2, SIXTY] + odd_texts() + odd_rows() + odd_things()


class Refusing:
    """For test cases: the refusal has to be of one class, not of a class under it."""

    def refused(self, error, deed, *things):
        with self.assertRaises(PlateError, msg=f"{things!r:.200}") as caught:
            deed(*things)
        self.assertIs(type(caught.exception), error, f"{things!r:.200}")
