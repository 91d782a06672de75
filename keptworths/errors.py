"""The errors that the program raises."""


class WorthError(ValueError):
    """What all errors of the program are; each one stores what is wrong."""

    def __init__(self, value):
        self.value = value


class InvalidName(WorthError):
    """A name of a column or of a formula that is none."""


class DoubleName(WorthError):
    """A name that stood before."""


class UnknownColumn(WorthError):
    """A column that there is not, or not here."""


class InvalidEdition(WorthError):
    """An edition that there is not, or whose columns are not those of the first one."""


class InvalidDeed(WorthError):
    """A deed that is none, or cannot be done now."""


class InvalidKind(WorthError):
    """A word for how a column is held, a standing or a way that is none."""


class UnlikeTables(WorthError):
    """Two tables that cannot be compared."""


class NothingToUndo(WorthError):
    """A row behind its first deed."""


class Unreadable(WorthError):
    """A text of nothing that can be read."""
