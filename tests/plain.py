"""Plain readings of points 30 to 51, which try out all possibilities, to compare the program with."""

import functools
import itertools

from tests.samples import closed, plainly_following


def plain_steps(rules):
    return {(a, b) if kind == "settles" else (b, a) for kind, a, b in rules}


def first_way(width, pairs, a, b):
    """The shortest way from a to b, the first of several, or None: all ways without repetitions are tried."""
    if a == b:
        return (a,)
    others = [column for column in range(width) if column not in (a, b)]
    for many in range(width - 1):
        for between in itertools.permutations(others, many):
            way = (a, *between, b)
            if all(pair in pairs for pair in zip(way, way[1:])):
                return way
    return None


def plain_walk(width, rules, a, b):
    return first_way(width, plain_steps(rules), a, b)


def plain_classes(width, pairs):
    """The classes of columns that the pairs join in both directions."""
    ways = closed(width, set(pairs)) | {(a, a) for a in range(width)}
    found = {tuple(b for b in range(width) if (a, b) in ways and (b, a) in ways) for a in range(width)}
    return tuple(sorted(found))


def plain_groups(width, rules):
    return plain_classes(width, plain_steps(rules))


def plain_links(width, rules, kind):
    """The pairs of the rules of a kind that are given or are given ones turned round."""
    given = {(a, b) for word, a, b in rules if word == kind}
    together = {(a, b) for group in plain_groups(width, rules) for a in group for b in group}
    return given | {(b, a) for a, b in given if (a, b) in together}


def plain_chain(width, rules, rule):
    kind, x, y = rule
    way = first_way(width, plain_links(width, rules, kind), x, y)
    if way is None:
        return None
    chain = []
    for a, b in zip(way, way[1:]):
        if (kind, a, b) in rules:
            chain.append((a, b, ()))
        elif kind == "settles":
            chain.append((a, b, plain_walk(width, rules, a, b)))
        else:
            chain.append((a, b, plain_walk(width, rules, b, a)))
    return tuple(chain)


class PlainModel:
    """Point 50, word for word."""

    def __init__(self, width, rules):
        self.width = width
        self.follow = plainly_following(width, rules)
        self.groups = plain_groups(width, rules)
        self.settling = plain_classes(width, {(a, b) for kind, a, b in self.follow if kind == "settles"})
        self.naming = plain_classes(width, {(a, b) for kind, a, b in self.follow if kind == "within"})

    @functools.cache
    def settling_below(self, one):
        return [other for other in self.settling if ("settles", one[0], other[0]) in self.follow and other != one]

    @functools.cache
    def naming_below(self, one):
        return [other for other in self.naming if ("within", other[0], one[0]) in self.follow and other != one]

    @functools.cache
    def group_number(self, column):
        group = [group for group in self.groups if column in group][0]
        numbers = [2 + self.s(one) for one in self.settling if one[0] in group]
        return max(numbers + [1 + self.t(one) for one in self.naming if one[0] in group])

    @functools.cache
    def s(self, one):
        return sum(self.r(other) for other in self.settling_below(one))

    @functools.cache
    def t(self, one):
        return sum(self.n(other) for other in self.naming_below(one))

    @functools.cache
    def r(self, one):
        return self.group_number(one[0]) - 1 - self.s(one)

    @functools.cache
    def n(self, one):
        return self.group_number(one[0]) - self.t(one)

    def values(self):
        names = {}
        free = 0
        for one in self.naming:
            names[one] = range(free, free + self.n(one))
            free += self.n(one)
        return [sorted(name for one in self.naming if column in one
                       for other in [one] + self.naming_below(one) for name in names[other])
                for column in range(self.width)]

    def rows(self):
        values = self.values()
        left = [own[1:] for own in values]
        rows = [tuple(own[0] for own in values)]
        for one in self.settling:
            over = [other for other in self.settling if other == one or one in self.settling_below(other)]
            for _ in range(self.r(one)):
                rows.append(tuple(
                    left[column].pop(0) if any(column in other for other in over) else values[column][0]
                    for column in range(self.width)))
        assert not any(left)
        return rows


def plain_model(width, rules):
    return tuple(PlainModel(width, rules).rows())


def plain_least(width, rules):
    left = list(rules)
    for place in reversed(range(len(rules))):
        others = left[:place] + left[place + 1:]
        if left[place] in plainly_following(width, others):
            left = others
    return tuple(left)


def is_plain_walk(rules, thing, a, b):
    steps = plain_steps(rules)
    return thing[:1] == (a,) and thing[-1:] == (b,) and all(step in steps for step in zip(thing, thing[1:]))


def is_plain_chain(rules, rule, chain):
    """Whether a chain of the right form, with columns that are integers, is one for the rule."""
    kind, x, y = rule
    at = x
    for a, b, ring in chain:
        ends = (a, b) if kind == "settles" else (b, a)
        given = (kind, a, b) in rules and ring == ()
        turned = (kind, b, a) in rules and is_plain_walk(rules, ring, *ends)
        if a != at or not (given or turned):
            return False
        at = b
    return len(chain) > 0 and at == y
