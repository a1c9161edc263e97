"""The refusals: one class each, all straight under SignError."""


class SignError(ValueError):
    """Something that was handed in is refused."""


class NoTable(SignError):
    """It is no table, or no table is kept by that name."""


class NoHeights(SignError):
    """It is no heights of a table."""


class NoNet(SignError):
    """It is no net of a table."""


class NoPlace(SignError):
    """The table has no such row or column."""


class NoTriangle(SignError):
    """It is no triangle, or none that a table has."""


class NoRow(SignError):
    """It is no last row of a triangle."""


class NoNumber(SignError):
    """It is no whole number, or one out of bounds."""


class NoTurn(SignError):
    """It is none of the words for turns."""


class NotAlike(SignError):
    """Two tables have unlike sides."""


class NoStep(SignError):
    """No step of the table goes up there."""


class NoRows(SignError):
    """No table of the side begins with these rows."""


class TooMany(SignError):
    """There would be too many to tell one by one."""


class BadNote(SignError):
    """It is no text of a table, or no line that a desk takes."""
