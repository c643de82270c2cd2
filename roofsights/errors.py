"""The refusals of the program."""


class RoofError(ValueError):
    """Any refusal."""


class NoHeights(RoofError):
    """What was handed in is no tuple of heights."""


class NoNumber(RoofError):
    """What was handed in is no number of the kind that is asked for."""


class NoLot(RoofError):
    """What was handed in is no lot, or none that can be where such a one is asked for."""


class NoHouse(RoofError):
    """What was handed in is no place of a house, or the same place a second time."""


class NoCounts(RoofError):
    """What was handed in is no tuple of counts."""


class NoPlace(RoofError):
    """What was handed in is no place where a house can be built."""


class NoHeight(RoofError):
    """What was handed in is no height of a house."""


class Taken(RoofError):
    """Another house has this height."""


class Full(RoofError):
    """The street has as many houses as it can have."""


class NothingLeft(RoofError):
    """There is nothing left to take back."""
