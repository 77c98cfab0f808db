"""The errors of the package: each tells what was wrong by its class, and the argument in its field."""


class LeafError(ValueError):
    """The error from which all others of the package are derived."""


class InvalidTerm(LeafError):
    """Raised for an object that is no term."""

    def __init__(self, value=None):
        self.value = value


class InvalidRule(LeafError):
    """Raised for an object that is no rule, or none of the kind that is asked for."""

    def __init__(self, value=None):
        self.value = value


class NotFlat(LeafError):
    """Raised for a rule with parts of this round where none may stand."""

    def __init__(self, value=None):
        self.value = value


class InvalidPath(LeafError):
    """Raised for an object that is no path of a part, or no list of such paths."""

    def __init__(self, value=None):
        self.value = value


class InvalidRows(LeafError):
    """Raised for an object that is no row, or no list of rows."""

    def __init__(self, value=None):
        self.value = value


class InvalidHours(LeafError):
    """Raised for an object that is not hours of the names that are asked for."""

    def __init__(self, value=None):
        self.value = value


class InvalidWhole(LeafError):
    """Raised for an object that is no whole number."""

    def __init__(self, value=None):
        self.value = value


class InvalidCount(LeafError):
    """Raised for an object that is no count, or none within the bounds."""

    def __init__(self, value=None):
        self.value = value


class InvalidName(LeafError):
    """Raised for an object that has to be a new name and is no name."""

    def __init__(self, value=None):
        self.value = value


class InvalidNames(LeafError):
    """Raised for an object that is no list, or no dictionary, of names as asked for."""

    def __init__(self, value=None):
        self.value = value


class UnknownName(LeafError):
    """Raised for an object that is none of the names that are spoken of."""

    def __init__(self, value=None):
        self.value = value


class TakenName(LeafError):
    """Raised for a name that is there already."""

    def __init__(self, value=None):
        self.value = value


class InvalidRules(LeafError):
    """Raised for an object that is no list, or no dictionary, of rules as asked for."""

    def __init__(self, value=None):
        self.value = value


class InvalidBook(LeafError):
    """Raised for an object that is no book."""

    def __init__(self, value=None):
        self.value = value


class Unlike(LeafError):
    """Raised for a book that has not the same names as another one."""

    def __init__(self, value=None):
        self.value = value


class InvalidLates(LeafError):
    """Raised for an object that is not lates as asked for."""

    def __init__(self, value=None):
        self.value = value


class InvalidCorners(LeafError):
    """Raised for an object that is no list of corners of a stair."""

    def __init__(self, value=None):
        self.value = value


class InvalidStair(LeafError):
    """Raised for an object that is no stair, or no list of stairs."""

    def __init__(self, value=None):
        self.value = value


class InvalidWindows(LeafError):
    """Raised for an object that is not windows as asked for."""

    def __init__(self, value=None):
        self.value = value


class InvalidSights(LeafError):
    """Raised for an object that is not sights, or not rows or a row of sights."""

    def __init__(self, value=None):
        self.value = value


class Clash(LeafError):
    """Raised for sights that no rule fits, where one is wanted."""

    def __init__(self, value=None):
        self.value = value


class InvalidHall(LeafError):
    """Raised for an object that is no hall."""

    def __init__(self, value=None):
        self.value = value


class InvalidScript(LeafError):
    """Raised for an object that is no script."""

    def __init__(self, value=None):
        self.value = value


class InvalidLog(LeafError):
    """Raised for an object that is no log of a hall."""

    def __init__(self, value=None):
        self.value = value


class InvalidText(LeafError):
    """Raised for an object that is no text of the kind that is asked for."""

    def __init__(self, value=None):
        self.value = value


class StillNeeded(LeafError):
    """Raised for a scribe that cannot be left out of its book."""

    def __init__(self, value=None):
        self.value = value


class NothingToUndo(LeafError):
    """Raised where no change is left that could be taken back."""


class NothingToRedo(LeafError):
    """Raised where no change is left that could be made again."""
