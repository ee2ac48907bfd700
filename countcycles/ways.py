"""Where pairs of columns lead: walks, classes of columns, and which rules follow."""


def steps_down(rules):
    """The pairs (a, b) of columns with a step down from a to b."""
    return [(a, b) if kind == "settles" else (b, a) for kind, a, b in rules]


def first_ways(pairs, start):
    """For each column that the pairs lead to from start, the shortest way there, the first of several."""
    ways = {start: (start,)}
    waiting = [start]
    # Columns wait in the order of their ways, so the first way found to a column is the first of the shortest.
    while waiting:
        column = waiting.pop(0)
        for b in sorted([second for first, second in pairs if first == column]):
            if b not in ways:
                ways[b] = (*ways[column], b)
                waiting.append(b)
    return ways


def reached(pairs, start):
    """The ascending list of all columns to which the pairs lead from start, itself included."""
    return sorted(list(first_ways(pairs, start)))


def classes_of(width, pairs):
    """The tuple of the classes of columns between which the pairs lead to and fro, each ascending, ascending."""
    ends = [reached(pairs, column) for column in range(width)]
    mates = [tuple([b for b in ends[a] if a in ends[b]]) for a in range(width)]
    return tuple([some for column, some in enumerate(mates) if some[0] == column])


def links(width, rules, kind):
    """The pairs of columns of the given rules of a kind, and of those of them that can be turned round."""
    steps = steps_down(rules)
    below = [reached(steps, column) for column in range(width)]
    pairs = [(a, b) for word, a, b in rules if word == kind]
    turned = [(b, a) for a, b in pairs if a in below[b] and b in below[a]]
    return pairs + turned


def follows(width, rules, rule):
    """Tell whether a rule follows from given ones."""
    kind, first, second = rule
    return second in reached(links(width, rules, kind), first)
