"""What all files ask of things that are handed in."""

from platecuts.errors import NoPlate, TooLarge


def is_whole(thing, least):
    """Tell of anything whether it is a whole number from least on."""
    # Python counts True and False among the ints, the document does not.
    return isinstance(thing, int) and not isinstance(thing, bool) and thing >= least


def is_truth(thing):
    """Tell of anything whether it is True or False; 0 and 1 are neither."""
    return isinstance(thing, bool)


def is_row(thing):
    """Tell of anything whether it is a list or a tuple, which may stand for each other."""
    return isinstance(thing, (list, tuple))


def check_plate(wide, high):
    """Refuse any two things that are not the sides of a plate."""
    if not is_whole(wide, 1) or not is_whole(high, 1):
        raise NoPlate("the sides of a plate are whole numbers from 1 on")


def check_sides(wide, high, most):
    """Refuse a plate with a side above the bound."""
    if wide > most or high > most:
        raise TooLarge(f"a side of the plate is above {most}")
