"""What stages make of changes, and what operators make of bags."""

from tidefold.bags import changes_of


def staged(stage, changes):
    """Return what a stage makes of changes, or of a bag."""
    return changes_of([(altered(stage, row), count) for row, count in changes if passes(stage, row)])


def passes(stage, row):
    """Return whether a stage makes a row out of this one."""
    if stage[0] == "sift":
        return satisfies(row[2], stage[1], stage[2])
    if stage[0] == "only":
        return row[1] in stage[1]
    return True


def satisfies(value, comparison, bound):
    """Return whether a value satisfies a comparison with a bound."""
    if comparison == "<":
        return value < bound
    if comparison == "<=":
        return value <= bound
    if comparison == "=":
        return value == bound
    if comparison == "!=":
        return value != bound
    if comparison == ">=":
        return value >= bound
    return value > bound


def altered(stage, row):
    """Return what a stage makes of a row that passes it."""
    time, key, value = row
    if stage[0] == "rekey":
        return (time, stage[1], value)
    if stage[0] == "scale":
        return (time, key, stage[1] * value)
    if stage[0] == "later":
        return (time + stage[1], key, value)
    return row


def once(bag):
    """Return each row of a bag once."""
    return [(row, 1) for row, _ in bag]


def windows(bag, size, slide, aggregate):
    """Return for each key and each window in which it has rows their aggregate, at its last time."""
    groups = {}
    for row, count in bag:
        for start in window_starts(row[0], size, slide):
            groups.setdefault((start, row[1]), []).append((row, count))
    found = []
    for start, key in groups:
        worth = aggregated(groups[start, key], aggregate)
        found.append(((start + size - 1, key, worth), 1))
    return changes_of(found)


def window_starts(time, size, slide):
    """Return the first times of the windows that contain a time, ascending."""
    return list(range(first_open(time, size, slide), time + 1, slide))


def first_open(time, size, slide):
    """Return the first time of the first window that does not end before a time."""
    return -((size - 1 - time) // slide) * slide


def aggregated(rows, aggregate):
    """Return the aggregate of the rows of a bag that is not empty."""
    if aggregate == "count":
        return sum([count for _, count in rows])
    if aggregate == "sum":
        return sum([row[2] * count for row, count in rows])
    found = [row[2] for row, _ in rows]
    return min(found) if aggregate == "least" else max(found)


def sittings(bag, gap, aggregate):
    """Return for each sitting the aggregate of its rows, at its last time plus the gap."""
    found = []
    for rows in divided(bag, gap):
        last, key, _ = rows[-1][0]
        found.append(((last + gap, key, aggregated(rows, aggregate)), 1))
    return changes_of(found)


def divided(bag, gap):
    """Return the sittings of all keys, each as the bag of its rows."""
    found = []
    latest = {}
    for row, count in bag:
        time, key, _ = row
        if key in latest and time - latest[key][-1][0][0] <= gap:
            latest[key].append((row, count))
        else:
            latest[key] = [(row, count)]
            found.append(latest[key])
    return found


def near(left, right, before, after, combination):
    """Return what is combined of each row of the left and each near row of the right bag."""
    by_key = {}
    for row, count in right:
        by_key.setdefault(row[1], []).append((row, count))
    found = []
    for (time, key, value), count in left:
        for (other, _, worth), many in by_key.get(key, []):
            if -before <= other - time and other - time <= after:
                made = (max(time, other), key, combined(value, worth, combination))
                found.append((made, count * many))
    return changes_of(found)


def combined(left, right, combination):
    """Return the combination of a value of the left and a value of the right."""
    if combination == "left":
        return left
    if combination == "right":
        return right
    if combination == "sum":
        return left + right
    return left - right


def without(left, right):
    """Return the rows of the left bag with whose time and key the right bag has no row."""
    taken = {row[:2] for row, _ in right}
    return [(row, count) for row, count in left if row[:2] not in taken]


def less(left, right):
    """Return the rows of the left bag, less those of the right one."""
    taken = {row: count for row, count in right}
    found = [(row, count - taken.get(row, 0)) for row, count in left]
    return [(row, count) for row, count in found if count > 0]
