"""What the other files share: which values are widths, columns, rows and rules, and what holds in rows."""

WIDEST = 6
MOST_ROWS = 400
LARGEST_VALUE = 9999
KINDS = ("settles", "within")


def is_an_integer(thing):
    """Tell whether a value is an int that is not a bool."""
    return isinstance(thing, int) and not isinstance(thing, bool)


def is_width(thing):
    """Tell whether a value is a width."""
    return is_an_integer(thing) and 1 <= thing <= WIDEST


def is_column(width, thing):
    """Tell whether a value is a column of the width."""
    return is_an_integer(thing) and 0 <= thing < width


def is_row(width, thing):
    """Tell whether a value is a row for the width."""
    if not isinstance(thing, tuple) or len(thing) != width:
        return False
    return all([is_an_integer(part) and 0 <= part <= LARGEST_VALUE for part in thing])


def is_rule(width, thing):
    """Tell whether a value is a rule for the width."""
    if not isinstance(thing, tuple) or len(thing) != 3:
        return False
    kind, first, second = thing
    if not isinstance(kind, str) or kind not in KINDS:
        return False
    return is_column(width, first) and is_column(width, second) and first != second


def every_rule(width):
    """The list of all rules for the width, ascending."""
    columns = list(range(width))
    return [(kind, a, b) for kind in KINDS for a in columns for b in columns if a != b]


def holds(rows, rule):
    """Tell whether a rule holds in a table with these rows."""
    kind, a, b = rule
    if kind == "within":
        return len({row[a] for row in rows} - {row[b] for row in rows}) == 0
    # A value of a beside two values of b would make more pairs than values.
    return len({(row[a], row[b]) for row in rows}) == len({row[a] for row in rows})
