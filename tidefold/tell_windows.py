"""Changes that tell apart two bags of which windows keep different rows."""

from tidefold.bags import added, between, changes_of, final, not_final
from tidefold.classes import points
from tidefold.kept import keep_windows
from tidefold.operators import aggregated, windows
from tidefold.shows import shown


def tell_windows(first, second, mark, size, slide, aggregate, show):
    """Return None if windows keep the same of two bags, otherwise changes that tell them apart."""
    kept = [keep_windows(bag, mark, size, slide, aggregate, show) for bag in (first, second)]
    differing = differing_rows(kept[0], kept[1], mark)
    if differing == []:
        return None
    key = min([row[1] for row in differing])
    start = max([row[0] for row in differing if row[1] == key])
    bags = [of_key(bag, key) for bag in (first, second)]
    inside = [within(bag, start, start + size - 1) for bag in bags]
    groups = [final(rows, mark) for rows in inside]
    taken = taken_away(not_final(inside[0], mark))
    for rows in lists_to_put(mark, key, aggregate, show, groups):
        changes = changes_of(taken + rows)
        told = [told_by_windows(bag, changes, size, slide, aggregate, show) for bag in bags]
        if told[0] != told[1]:
            return changes
    return None


def told_by_windows(bag, changes, size, slide, aggregate, show):
    """Return the shown changes of the windows of a bag."""
    before = windows(bag, size, slide, aggregate)
    after = windows(added(bag, changes), size, slide, aggregate)
    return shown(show, between(before, after))


def differing_rows(first, second, mark):
    """Return the rows before the mark that are not there equally often in two bags."""
    return [row for row, _ in final(between(first, second), mark)]


def of_key(bag, key):
    """Return the rows of a bag with this key."""
    return [(row, count) for row, count in bag if row[1] == key]


def within(bag, first, last):
    """Return the rows of a bag with times from the first to the last one."""
    return final(not_final(bag, first), last + 1)


def taken_away(bag):
    """Return the changes that take all rows of a bag away."""
    return [(row, -count) for row, count in bag]


def lists_to_put(time, key, aggregate, show, groups):
    """Return what is put at a time, one list of (row, count) after the other, to tell two groups of rows apart."""
    if aggregate == "count":
        return [[((time, key, 0), many)] for many in counts_to_put(show, groups)]
    if aggregate == "sum":
        values = values_beside_sums(show, groups)
    else:
        values = values_beside_extremes(aggregate, show, groups)
    return [[]] + [[((time, key, value), 1)] for value in values]


def counts_to_put(show, groups):
    """Return the numbers of rows that are put to tell two groups apart of which the rows are counted."""
    counts = [0] + [aggregated(rows, "count") for rows in groups]
    numbers = [0, 1] + around([point - count for point in points(show) for count in counts])
    found = sorted(set([number for number in numbers if number >= 0]))
    most = found[-1] + 1
    return found + [most, most + 1]


def values_beside_sums(show, groups):
    """Return the values that are put to tell two groups apart of which the values are added."""
    sums = [0] + [aggregated(rows, "sum") for rows in groups]
    return sorted(set([0, 1] + around([point - total for point in points(show) for total in sums])))


def values_beside_extremes(aggregate, show, groups):
    """Return the values that are put to tell two groups apart of which the least or greatest value counts."""
    return sorted(set(around(points(show) + [aggregated(rows, aggregate) for rows in groups if rows != []])))


def around(numbers):
    """Return numbers and those beside them."""
    return [number + step for number in numbers for step in (-1, 0, 1)]
