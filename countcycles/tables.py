"""Tables of numbers."""

from countcycles.columns import LARGEST_VALUE, MOST_ROWS, every_rule, holds, is_row, is_rule, is_width
from countcycles.errors import NoRows, NoRule, NoText, NotTable, NoWidth, TooMuch, UnlikeWidths
from countcycles.rules import Rules

FACTOR = 100


def is_numeral(word):
    """Tell whether a word is a value as it is written in a text."""
    # The length is tested first, as Python refuses to make numbers of very long words.
    if len(word) > len(str(LARGEST_VALUE)) or not word.isascii() or not word.isdigit():
        return False
    return str(int(word)) == word


def rows_of(width, text):
    """The rows that a text lists, in their order, or None if it is not the text of a table."""
    parts = text.split("\n")
    lines = [part.split(" ") for part in parts[:-1]]
    if parts[-1] != "" or len(lines) > MOST_ROWS:
        return None
    if not all([len(words) == width for words in lines]):
        return None
    if not all([is_numeral(word) for words in lines for word in words]):
        return None
    return [tuple([int(word) for word in words]) for words in lines]


def all_below(rows, limit):
    """Tell whether all values in the rows are below a limit."""
    return all([part < limit for row in rows for part in row])


def product_row(first, second):
    """The row of a product that two rows make."""
    return tuple([FACTOR * one + other for one, other in zip(first, second)])


class Table:
    """Rows of as many values as the width says; it does not change."""

    def __init__(self, width, *rows):
        if not is_width(width):
            raise NoWidth("a width is an integer from 1 to 6")
        if len(rows) > MOST_ROWS:
            raise NoRows("a table has at most 400 rows")
        if not all([is_row(width, row) for row in rows]):
            raise NoRows("each row must be a row for the width")
        self.span = width
        self.lines = rows

    @property
    def width(self):
        """The number of columns."""
        return self.span

    @property
    def rows(self):
        """The tuple of the rows, as given."""
        return self.lines

    @property
    def counts(self):
        """The tuple that has for each column how many different values it has."""
        return tuple([len({row[column] for row in self.lines}) for column in range(self.span)])

    def __len__(self):
        return len(self.lines)

    def __repr__(self):
        return f"Table({self.span} columns, {len(self.lines)} rows)"

    def __eq__(self, other):
        if not isinstance(other, Table) or self.span != other.span:
            return False
        return sorted(self.lines) == sorted(other.lines)

    def __call__(self, rule):
        """Tell whether a rule holds in the table."""
        if not is_rule(self.span, rule):
            raise NoRule("this is not a rule for the width")
        return holds(self.lines, rule)

    def obeyed(self):
        """The list of all rules that hold in the table, ascending."""
        found = [rule for rule in every_rule(self.span) if holds(self.lines, rule)]
        return Rules(self.span, *found)

    def __add__(self, other):
        """The table with these rows and behind them those of the other."""
        if not isinstance(other, Table):
            raise NotTable("only a table can be added")
        if self.span != other.span:
            raise UnlikeWidths("both tables must have the same width")
        if len(self.lines) + len(other.lines) > MOST_ROWS:
            raise TooMuch("a table has at most 400 rows")
        joined = [*self.lines, *other.lines]
        return Table(self.span, *joined)

    def __mul__(self, other):
        """The table with a row for each two rows, one of each table."""
        if not isinstance(other, Table):
            raise NotTable("a table can only be multiplied by a table")
        if self.span != other.span:
            raise UnlikeWidths("both tables must have the same width")
        if len(self.lines) * len(other.lines) > MOST_ROWS:
            raise TooMuch("a table has at most 400 rows")
        if not all_below(self.lines, FACTOR) or not all_below(other.lines, FACTOR):
            raise TooMuch("only tables with values up to 99 can be multiplied")
        paired = [product_row(first, second) for first in self.lines for second in other.lines]
        return Table(self.span, *paired)

    def text(self):
        """The text with a line for each row, in their order."""
        lines = [" ".join([str(part) for part in row]) for row in self.lines]
        return "".join([f"{line}\n" for line in lines])

    @classmethod
    def read(cls, width, text):
        """The table with this width and exactly this text."""
        if not is_width(width):
            raise NoWidth("a width is an integer from 1 to 6")
        if not isinstance(text, str):
            raise NoText("only a text can be read")
        found = rows_of(width, text)
        if found is None:
            raise NoText("this is not the text of a table with the width")
        return cls(width, *found)
