"""What all files ask of things that are handed in."""


def is_whole(thing, least):
    """Tell of anything whether it is a whole number from least on."""
    # Python counts True and False among the ints, the document does not.
    return isinstance(thing, int) and not isinstance(thing, bool) and thing >= least


def is_truth(thing):
    """Tell of anything whether it is True or False; 0 and 1 are neither."""
    return isinstance(thing, bool)


def is_row(thing):
    """Tell of anything whether it is a list or a tuple, which may stand for each other."""
    return isinstance(thing, (list, tuple))
