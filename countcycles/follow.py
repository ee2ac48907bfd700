"""What follows from given rules, and what shows it."""

from countcycles.columns import KINDS, holds, is_column, is_rule
from countcycles.errors import NoColumn, NoRule, NotRules
from countcycles.models import model_rows
from countcycles.rules import Rules
from countcycles.tables import Table
from countcycles.ways import classes_of, first_ways, follows, links, reached, steps_down


def check_rules(rules):
    """Raise an error for anything but a list of rules."""
    if not isinstance(rules, Rules):
        raise NotRules("this is not a list of rules")


def check_rule(rules, rule):
    """Raise an error for anything but a rule for the width of the list."""
    if not is_rule(rules.width, rule):
        raise NoRule("this is not a rule for the width")


def walk(rules, a, b):
    """The shortest walk from column a to column b, the first if there are several, or None."""
    check_rules(rules)
    if not is_column(rules.width, a) or not is_column(rules.width, b):
        raise NoColumn("a column is an integer from 0 to the width less 1")
    walks = first_ways(steps_down(rules.rules), a)
    return walks.get(b)


def groups(rules):
    """The tuple of all groups, each an ascending tuple of columns, ascending."""
    check_rules(rules)
    return classes_of(rules.width, steps_down(rules.rules))


def following(rules):
    """Yield all rules that follow, ascending."""
    check_rules(rules)
    for kind in KINDS:
        pairs = links(rules.width, rules.rules, kind)
        for a in range(rules.width):
            for b in reached(pairs, a):
                if a != b:
                    yield (kind, a, b)


def ring_ends(kind, a, b):
    """The first and the last column of the walk that closes a ring with the given rule (kind, b, a)."""
    return (a, b) if kind == "settles" else (b, a)


def ring_for(rules, kind, a, b):
    """What stands in a chain beside the columns a and b: nothing for a given rule, or else the shortest walk."""
    if (kind, a, b) in rules.rules:
        return ()
    first, last = ring_ends(kind, a, b)
    return first_ways(steps_down(rules.rules), first)[last]


def verdict(rules, rule):
    """Tell whether a rule follows, with the chain or the table that shows it."""
    check_rules(rules)
    check_rule(rules, rule)
    kind, first, last = rule
    ways = first_ways(links(rules.width, rules.rules, kind), first)
    if last not in ways:
        return ("fails", model(rules))
    way = ways[last]
    chain = [(a, b, ring_for(rules, kind, a, b)) for a, b in zip(way, way[1:])]
    return ("follows", tuple(chain))


def is_walk(rules, thing):
    """Tell whether a value is a walk."""
    if not isinstance(thing, tuple) or len(thing) == 0:
        return False
    if not all([is_column(rules.width, column) for column in thing]):
        return False
    steps = steps_down(rules.rules)
    return all([step in steps for step in zip(thing, thing[1:])])


def is_part(rules, kind, thing):
    """Tell whether a value may stand in a chain for a rule of the kind."""
    if not isinstance(thing, tuple) or len(thing) != 3:
        return False
    a, b, ring = thing
    if not is_column(rules.width, a) or not is_column(rules.width, b):
        return False
    if ring == () and (kind, a, b) in rules.rules:
        return True
    if (kind, b, a) not in rules.rules or not is_walk(rules, ring):
        return False
    return (ring[0], ring[-1]) == ring_ends(kind, a, b)


def is_chain(rules, rule, thing):
    """Tell whether a value is a chain for the rule."""
    kind, first, last = rule
    if not isinstance(thing, tuple) or not all([is_part(rules, kind, part) for part in thing]):
        return False
    # No rule has the same column twice, so this refuses a chain without parts, too.
    return [first, *[b for a, b, ring in thing]] == [*[a for a, b, ring in thing], last]


def is_counterexample(rules, rule, thing):
    """Tell whether a value is a table of the width in which all given rules hold, but not this one."""
    if not isinstance(thing, Table) or thing.width != rules.width:
        return False
    return all([holds(thing.rows, given) for given in rules.rules]) and not holds(thing.rows, rule)


def shows_verdict(rules, rule, thing):
    """Tell whether any value is a verdict on the rule with a chain or a table that shows it."""
    check_rules(rules)
    check_rule(rules, rule)
    if not isinstance(thing, tuple) or len(thing) != 2:
        return False
    word, shown = thing
    if not isinstance(word, str):
        return False
    if word == "follows":
        return is_chain(rules, rule, shown)
    return word == "fails" and is_counterexample(rules, rule, shown)


def model(rules):
    """The table in which exactly the rules hold that follow."""
    check_rules(rules)
    rows = model_rows(rules.width, rules.rules)
    return Table(rules.width, *rows)


def least(rules):
    """The list that is left if each rule that follows from the others is removed, from the last to the first."""
    check_rules(rules)
    left = list(rules.rules)
    for rule in reversed(rules.rules):
        others = [other for other in left if other != rule]
        if follows(rules.width, others, rule):
            left = others
    return Rules(rules.width, *left)
