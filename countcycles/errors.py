"""The errors of the package: one class for each kind of failure."""


class ColumnError(ValueError):
    """The base of all errors of this package."""


class NoWidth(ColumnError):
    """A value is not a width."""


class NoRows(ColumnError):
    """Values are not the rows of a table."""


class NoRow(ColumnError):
    """A value is not a row."""


class NoRules(ColumnError):
    """Values are not different rules for the width."""


class NoRule(ColumnError):
    """A value is not a rule for the width."""


class NoColumn(ColumnError):
    """A value is not a column of the width."""


class NoNumber(ColumnError):
    """A value is not a number that is accepted here."""


class NoText(ColumnError):
    """A value is not the text of a table or of a list of rules."""


class NotTable(ColumnError):
    """A value is not a table."""


class NotRules(ColumnError):
    """A value is not a list of rules."""


class UnlikeWidths(ColumnError):
    """Two widths that must be the same differ."""


class TooMuch(ColumnError):
    """There would be too many rows, or too large a value."""


class NotThere(ColumnError):
    """A row that is to be removed does not occur."""


class Broken(ColumnError):
    """A given rule would not hold."""


class NothingDone(ColumnError):
    """There is no change to take back."""
