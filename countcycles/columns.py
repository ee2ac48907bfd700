"""What the other files share: which values are widths, columns and rules, and where given rules lead."""

WIDEST = 6
KINDS = ("settles", "within")


def is_an_integer(thing):
    """Tell whether a value is an int that is not a bool."""
    return isinstance(thing, int) and not isinstance(thing, bool)


def is_width(thing):
    """Tell whether a value is a width."""
    return is_an_integer(thing) and 1 <= thing <= WIDEST


def is_column(width, thing):
    """Tell whether a value is a column of the width."""
    return is_an_integer(thing) and 0 <= thing < width


def is_rule(width, thing):
    """Tell whether a value is a rule for the width."""
    if not isinstance(thing, tuple) or len(thing) != 3:
        return False
    kind, first, second = thing
    if not isinstance(kind, str) or kind not in KINDS:
        return False
    return is_column(width, first) and is_column(width, second) and first != second


def every_rule(width):
    """The list of all rules for the width, ascending."""
    columns = list(range(width))
    return [(kind, a, b) for kind in KINDS for a in columns for b in columns if a != b]


def steps_down(rules):
    """The pairs (a, b) of columns with a step down from a to b."""
    return [(a, b) if kind == "settles" else (b, a) for kind, a, b in rules]


def reached(pairs, start):
    """The list of all columns to which the pairs lead from start, itself included."""
    found = [start]
    waiting = [start]
    while waiting:
        column = waiting.pop()
        for a, b in pairs:
            if a == column and b not in found:
                found.append(b)
                waiting.append(b)
    return found


def links(width, rules, kind):
    """The pairs of columns of the given rules of a kind, and of those of them that can be turned round."""
    steps = steps_down(rules)
    below = [reached(steps, column) for column in range(width)]
    pairs = [(a, b) for word, a, b in rules if word == kind]
    turned = [(b, a) for a, b in pairs if a in below[b] and b in below[a]]
    return pairs + turned


def follows(width, rules, rule):
    """Tell whether a rule follows from given ones."""
    kind, first, second = rule
    return second in reached(links(width, rules, kind), first)
