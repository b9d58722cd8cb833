"""All exceptions of the package."""


class SpaceError(ValueError):
    """The base class of all exceptions of the package."""


class InvalidSetting(SpaceError):
    """The setting is not a setting."""


class InvalidRow(SpaceError):
    """A value is not a row of the setting."""


class InvalidRows(SpaceError):
    """A value is not a list of rows, or the list is too long."""


class InvalidSubspace(SpaceError):
    """A value is not a tuple of reduced rows of the setting."""


class InvalidNumber(SpaceError):
    """A value is not an integer, or the integer is out of range."""


class InvalidSystem(SpaceError):
    """A value is not a system of equations."""


class NotInside(SpaceError):
    """The first subspace is not in the second one."""


class NoSolution(SpaceError):
    """The system of equations has no solution."""


class NothingToUndo(SpaceError):
    """The builder has no row that can be taken out."""


class ParseError(SpaceError):
    """The text is not the text of a subspace."""
