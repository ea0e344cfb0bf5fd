"""The refusals: each stands straight under PlateError, none under another."""


class PlateError(ValueError):
    """Any refusal."""


class NoBlade(PlateError):
    """A blade is no whole number from 0 on."""


class NoKinds(PlateError):
    """The kinds of a shop are no list or tuple of 1 to 8 things."""


class NoKind(PlateError):
    """One of the kinds of a shop is no kind."""


class NoLying(PlateError):
    """A kind's number and a truth are no lying of the shop."""


class NoText(PlateError):
    """A thing is not the text of a shop."""


class NoPlate(PlateError):
    """A plate's side is no whole number from 1 on."""


class NoTree(PlateError):
    """A thing is no tree of the plate."""


class NoLaying(PlateError):
    """A thing is no laying on the plate."""


class TooLarge(PlateError):
    """A side, or what is wanted, is above the bound."""


class NoTable(PlateError):
    """A thing is no table of the plate."""


class NoNumber(PlateError):
    """A thing is not a number of the sort that is asked for."""


class NoWeights(PlateError):
    """A thing is no list of weights, or has another length than told."""


class NoTelling(PlateError):
    """A thing is no telling of a tree of the plate."""
