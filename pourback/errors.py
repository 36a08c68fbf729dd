"""The refusals of the package, each made of a text."""


class PourError(ValueError):
    """Any refusal."""


class NoParts(PourError):
    """What was handed in as parts is none."""


class NoShare(PourError):
    """What was handed in as a share is none."""


class NoRow(PourError):
    """What was handed in as a row is none."""


class NoMany(PourError):
    """What was handed in as a number of pours is none."""


class NoLefts(PourError):
    """What was handed in as a number of pours to the left is none."""


class NoPlace(PourError):
    """What was handed in as a place is none of the row."""


class NoNumber(PourError):
    """What was handed in as the number of a row is none."""


class NoDistance(PourError):
    """What was handed in as a distance is none."""


class NoPour(PourError):
    """What was handed in as a pour is none."""


class Full(PourError):
    """There is no room for one more pour."""


class NothingLeft(PourError):
    """There is nothing left to take back."""
