"""The rows of the table in which exactly the rules hold that follow."""

from countcycles.ways import classes_of, links, reached, steps_down


def classes_below(width, pairs):
    """For each class of columns that the pairs make, in order, the list of the other classes that they lead to."""
    classes = classes_of(width, pairs)
    ends = {one: reached(pairs, one[0]) for one in classes}
    return {one: [other for other in classes if other != one and other[0] in ends[one]] for one in classes}


def lowest_first(width, rules):
    """The groups of the given rules, each behind all those to which there are walks from it."""
    steps = steps_down(rules)
    # A group has walks to more columns than any group below it.
    return sorted(list(classes_of(width, steps)), key=lambda group: len(reached(steps, group[0])))


def class_numbers(ordered, settling, naming):
    """The numbers r of the settling classes and n of the naming classes, for the groups with the lowest first."""
    fresh = {}
    named = {}
    for group in ordered:
        settled = {one: sum([fresh[other] for other in settling[one]]) for one in settling if one[0] in group}
        lying = {one: sum([named[other] for other in naming[one]]) for one in naming if one[0] in group}
        many = max([2 + settled[one] for one in settled] + [1 + lying[one] for one in lying])
        for one in settled:
            fresh[one] = many - 1 - settled[one]
        for one in lying:
            named[one] = many - lying[one]
    return fresh, named


def column_values(naming, named):
    """For each column the ascending list of its values."""
    names = {}
    start = 0
    for one in naming:
        names[one] = list(range(start, start + named[one]))
        start += named[one]
    values = {}
    for one in naming:
        for column in one:
            values[column] = sorted([name for other in [one, *naming[one]] for name in names[other]])
    return values


def model_rows(width, rules):
    """The rows of the table in which exactly the rules hold that follow from the given ones."""
    settling = classes_below(width, links(width, rules, "settles"))
    # The smaller column of a rule "within" is its first one, so these pairs lead down the other way.
    naming = classes_below(width, [(b, a) for a, b in links(width, rules, "within")])
    fresh, named = class_numbers(lowest_first(width, rules), settling, naming)
    values = column_values(naming, named)
    rows = [tuple([values[column][0] for column in range(width)])]
    used = [0 for column in range(width)]
    for one in settling:
        rising = [column for other in settling if other == one or one in settling[other] for column in other]
        for turn in range(fresh[one]):
            for column in rising:
                used[column] += 1
            places = [used[column] if column in rising else 0 for column in range(width)]
            rows.append(tuple([values[column][place] for column, place in enumerate(places)]))
    return rows
