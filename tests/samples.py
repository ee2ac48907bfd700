"""Values that several tests use, and a plain reading of point 31."""

import itertools
import random

from countcycles.logs import Log, Short, Strict, StrictShort
from countcycles.rules import Rules
from countcycles.tables import Table

KINDS = ("settles", "within")
CLASSES = (Log, Strict, Short, StrictShort)
SHORT = (Short, StrictShort)

NO_WIDTHS = (0, 7, 8, -1, -6, 10 ** 12, True, False, None, "", "2", "two", (), (2,), [], [2], {}, {2: 2}, Rules(2),
             Table(2), Log(Rules(2)))


def state(log):
    """All that can be read off a log."""
    return log.rules, log.table.width, log.table.rows, log.broken, log.changes, len(log), repr(log)


def nested(make, depth):
    value = make(0)
    for _ in range(depth - 1):
        value = make(value)
    return value


def deep_values():
    return [
        nested(lambda part: (part,), 20),
        nested(lambda part: [part], 20),
        nested(lambda part: {"a": part}, 20),
        nested(lambda part: ("settles", part, 1), 20),
    ]


def large_values():
    return [
        tuple(range(7990)),
        list(range(7990)),
        {number: "x" for number in range(3990)},
        ("settles", 0, 1) * 2600,
        "0 settles 1\n" * 1600,
    ]


def package_values():
    """Objects of the package that are no lists of rules, some of them inside of other values."""
    rules = Rules(2, ("settles", 0, 1))
    logs = [Log(rules), Strict(rules), Short(rules), StrictShort(rules)]
    tables = [Table(1), Table(2), Table(2, (0, 1)), Table(6, (5, 5, 5, 5, 5, 5))]
    inside = [tuple(logs), logs, (tables[2],), {0: tables[1]}, ("settles", *tables[:2]), ("fails", tables[2])]
    return logs + tables + inside + [Log(rules).trying()]


def any_values():
    """Values of every kind of point 2, none of them a rule, a row of several values, a width or a list of rules."""
    return [
        0, -1, 13, 10 ** 13 - 1, True, False, None, "x", "settles", "0 settles 1", "within",
        [], (), {}, [0], (0,), {0: 1}, {"settles": (0, 1)}, [("settles", 0, 1)], (("settles", 0, 1),),
        ("settles",), ("settles", 0), ("settles", 0, 1, 2), ["settles", 0, 1], ("settles", [0], 1),
        ("settles", (0,), (1,)), ("settles", None, 1), ("settles", "0", "1"), (None, 0, 1), (True, 0, 1),
        (0, "settles", 1), (0, 1, "settles"), ({}, 0, 1), ([], 0, 1), (Rules(2), 0, 1), ("settles", Rules(2), 1),
        ("settles", {}, []), (("settles",), 0, 1), (Rules(3, ("settles", 0, 1)),), [Rules(1)], {1: Rules(1)},
    ] + deep_values() + large_values() + package_values()


def values_but(kind):
    """The values of any_values and some lists of rules, without the objects of a class."""
    some = any_values() + [Rules(1), Rules(2), Rules(2, ("settles", 0, 1)), Rules(6)]
    return [value for value in some if not isinstance(value, kind)]


def rules_for(width):
    """All rules for the width, written out anew."""
    return [(kind, a, b) for kind in KINDS for a in range(width) for b in range(width) if a != b]


def near_rules(width, rule):
    """Values that differ from a rule for the width in one part, and are none themselves."""
    kind, a, b = rule
    other = "within" if kind == "settles" else "settles"
    changed = [
        [kind, a, b], {kind: (a, b)}, f"{a} {kind} {b}", (kind, a), (kind, b), (a, b), (kind,), (),
        (kind, a, b, a), (kind, a, b, None), (kind, a, b, ()), (kind, kind, a, b), (kind, (a, b)), (kind, [a, b]),
        ((kind, a, b),), (kind, a, a), (kind, b, b), (kind, a, width), (kind, width, b), (kind, a, -1),
        (kind, -1, b), (kind, a, b - width), (kind, a - width, b), (kind, a, 10 ** 12), (kind, 7, b),
        (kind, a, str(b)), (kind, str(a), b), (kind, None, b), (kind, a, None), (kind, (a,), b), (kind, a, [b]),
        (kind.upper(), a, b), (kind.title(), a, b), (kind + " ", a, b), (kind[:-1], a, b), ("", a, b),
        ("is", a, b), (None, a, b), (0, a, b), (True, a, b), ((kind,), a, b), ([kind], a, b),
        (kind + other, a, b), (a, kind, b), (a, b, kind), (kind, float(a), b), (kind, a, float(b)),
    ]
    if a in (0, 1):
        changed.append((kind, bool(a), b))
    if b in (0, 1):
        changed.append((kind, a, bool(b)))
    if a in (0, 1) and b in (0, 1):
        changed.append((kind, bool(a), bool(b)))
    return changed


def near_rows(row):
    """Values that differ from a row in one part, and are none themselves for its width."""
    changed = [list(row), row[:-1], row + (0,), row + (None,), row * 2, (row,), [row], {0: row}, None, str(row),
               " ".join(map(str, row))]
    for place in range(len(row)):
        for part in (-1, 10000, 10 ** 12, True, False, None, "", str(row[place]), (row[place],), [row[place]],
                     {row[place]: 0}, Table(1), float(row[place])):
            changed.append(row[:place] + (part,) + row[place + 1:])
    return changed


def random_rows(width, chance, least, most, large=3):
    """Some rows for the width with values below a number."""
    return [tuple(chance.randrange(large) for _ in range(width)) for _ in range(chance.randint(least, most))]


def many_tables(width):
    """The rows of many tables of the width, the same ones in each run."""
    chance = random.Random(2000 + width)
    tables = [random_rows(width, chance, 0, 6, large) for large in (1, 2, 3, 4, 10000) for _ in range(12)]
    for _ in range(20):
        # Columns that take their values from others, so that rules hold.
        rows = random_rows(width, chance, 1, 8, 4)
        source = [chance.randrange(width) for _ in range(width)]
        shift = [chance.choice((0, 0, 1, 7)) for _ in range(width)]
        tables.append([tuple(row[at] + more for at, more in zip(source, shift)) for row in rows])
    return tables


def ring(columns, kinds):
    """Rules with a step down from each column to the next one, and from the last to the first."""
    steps = zip(columns, columns[1:] + columns[:1])
    return [(kind, a, b) if kind == "settles" else (kind, b, a) for kind, (a, b) in zip(kinds, steps)]


def without_doubles(rules):
    return list(dict.fromkeys(rules))


def turned_about(rules, place):
    """The rules with the columns of the one at this place exchanged."""
    kind, a, b = rules[place]
    return without_doubles(rules[:place] + [(kind, b, a)] + rules[place + 1:])


def ring_lists(width, chance):
    """Rings of both kinds mixed, each also with one rule turned about."""
    lists = []
    for length in range(2, width + 1):
        for _ in range(12):
            columns = chance.sample(range(width), length)
            kinds = [chance.choice(KINDS) for _ in columns]
            rules = ring(columns, kinds)
            lists.append(rules)
            lists.append(turned_about(rules, chance.randrange(length)))
    return [without_doubles(rules) for rules in lists]


def joined_ring_lists(width, chance):
    """Two rings, which may have columns in common, and some other rules."""
    lists = []
    for _ in range(40):
        rules = []
        for _ in range(2):
            columns = chance.sample(range(width), chance.randint(2, width))
            rules += ring(columns, [chance.choice(KINDS) for _ in columns])
        rules += chance.sample(rules_for(width), 2)
        lists.append(without_doubles(rules))
    return lists


def short_lists(width, chance):
    every = rules_for(width)
    return [chance.sample(every, size) for size in range(min(len(every), 9) + 1) for _ in range(12)]


def nearly_full_lists(width, chance):
    every = rules_for(width)
    return [chance.sample(every, len(every) - less) for less in range(min(len(every), 4)) for _ in range(3)]


def many_lists(width):
    """Many lists of rules for the width, the same ones in each run."""
    chance = random.Random(1000 + width)
    lists = [[]] + short_lists(width, chance) + nearly_full_lists(width, chance)
    if width > 1:
        lists += ring_lists(width, chance) + joined_ring_lists(width, chance)
    return lists


def all_lists(width):
    """All lists of rules for the width, each in ascending order."""
    every = rules_for(width)
    return [list(some) for size in range(len(every) + 1) for some in itertools.combinations(every, size)]


def closed(width, pairs):
    """All pairs of columns between which the pairs make a way of one or more parts."""
    table = [[(a, b) in pairs for b in range(width)] for a in range(width)]
    for middle, a, b in itertools.product(range(width), repeat=3):
        if table[a][middle] and table[middle][b]:
            table[a][b] = True
    return {(a, b) for a in range(width) for b in range(width) if table[a][b]}


def plainly_following(width, rules):
    """The set of all rules that follow, as point 31 says it."""
    steps = {(a, b) for kind, a, b in rules if kind == "settles"} | {(b, a) for kind, a, b in rules if kind == "within"}
    walks = closed(width, steps)
    result = set()
    for kind in KINDS:
        given = {(a, b) for word, a, b in rules if word == kind}
        turned = {(b, a) for a, b in given if (a, b) in walks and (b, a) in walks}
        result |= {(kind, a, b) for a, b in closed(width, given | turned) if a != b}
    return result


def plainly_holds(rows, rule):
    """Whether a rule holds in the rows of a table."""
    kind, a, b = rule
    if kind == "within":
        return {row[a] for row in rows} <= {row[b] for row in rows}
    return len({(row[a], row[b]) for row in rows}) == len({row[a] for row in rows})
