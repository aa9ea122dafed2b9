"""Plain counting: what bags, stages, operators and plans tell, without the code under test."""


def listed(counts):
    """Return a dict from rows to counts as changes, ordered by time, key and value."""
    return [(row, counts[row]) for row in sorted(counts, key=place_of) if counts[row] != 0]


def place_of(row):
    time, key, value = row
    return (time, [ord(letter) for letter in key], value)


def summed(pairs):
    """Return a dict from rows to what their counts add up to."""
    return {row: sum(count for other, count in pairs if other == row) for row, _ in pairs}


def bag_by_counting(pairs):
    return listed(summed(pairs))


def compared(value, comparison, bound):
    # A third of each: less, equal, greater.
    side = (value > bound) - (value < bound)
    return side in {"<": (-1,), "<=": (-1, 0), "=": (0,), "!=": (-1, 1), ">=": (0, 1), ">": (1,)}[comparison]


def row_behind(stage, row):
    """Return what a stage makes of a row, or None."""
    time, key, value = row
    word, *parts = stage
    if word == "sift":
        return row if compared(value, *parts) else None
    if word == "only":
        return row if any(key == wanted for wanted in parts[0]) else None
    if word == "rekey":
        return (time, parts[0], value)
    if word == "scale":
        return (time, key, value * parts[0])
    assert word == "later"
    return (time + parts[0], key, value)


def staged_by_counting(stage, changes):
    made = [(row_behind(stage, row), count) for row, count in changes]
    return bag_by_counting([(row, count) for row, count in made if row is not None])


def aggregate_of(pairs, aggregate):
    """Return the aggregate of a list of pairs of values and counts."""
    if aggregate == "count":
        return sum(count for _, count in pairs)
    if aggregate == "sum":
        return sum(value * count for value, count in pairs)
    values = sorted(value for value, _ in pairs)
    return {"least": values[0], "greatest": values[-1]}[aggregate]


def starts_by_counting(time, size, slide):
    tried = range(time - size - slide, time + size + slide)
    return [start for start in tried if start % slide == 0 and start <= time <= start + size - 1]


def windows_by_counting(bag, size, slide, aggregate):
    found = {}
    for (time, key, _), _ in bag:
        for start in starts_by_counting(time, size, slide):
            inside = []
            for (other, of, value), count in bag:
                if of == key and other in range(start, start + size):
                    inside.append((value, count))
            found[(start + size - 1, key, aggregate_of(inside, aggregate))] = 1
    return listed(found)


def sittings_by_counting(bag, gap, aggregate):
    """Find the times behind which no row of the key comes soon; a sitting ends at each of them."""
    found = {}
    for key in {row[1] for row, _ in bag}:
        times = {row[0] for row, _ in bag if row[1] == key}
        lasts = [time for time in times if not any(time < other <= time + gap for other in times)]
        for last in lasts:
            inside = []
            for (time, of, value), count in bag:
                if of == key and last == min(other for other in lasts if other >= time):
                    inside.append((value, count))
            found[(last + gap, key, aggregate_of(inside, aggregate))] = 1
    return listed(found)


def near_by_counting(left, right, before, after, combination):
    found = []
    for (time, key, value), many in left:
        for (other, of, worth), times in right:
            if key == of and time - before <= other <= time + after:
                both = {"left": value, "right": worth, "sum": value + worth, "difference": value - worth}
                found.append(((sorted((time, other))[1], key, both[combination]), many * times))
    return bag_by_counting(found)


def without_by_counting(left, right):
    return [pair for pair in left if not any(pair[0][:2] == row[:2] for row, _ in right)]


def less_by_counting(left, right):
    found = {}
    for row, count in left:
        found[row] = max(count - sum(many for other, many in right if other == row), 0)
    return listed(found)


def result_by_counting(plan, tables):
    """Return the result of a plan, the operators applied one in the other."""
    word, *parts = plan
    if word == "source":
        return bag_by_counting(tables[parts[0]])
    if word in ("both", "less", "without", "near"):
        left = result_by_counting(parts[-2], tables)
        right = result_by_counting(parts[-1], tables)
        if word == "both":
            return bag_by_counting(left + right)
        if word == "less":
            return less_by_counting(left, right)
        if word == "without":
            return without_by_counting(left, right)
        return near_by_counting(left, right, *parts[:-2])
    below = result_by_counting(parts[-1], tables)
    if word == "stage":
        return staged_by_counting(parts[0], below)
    if word == "once":
        return [(row, 1) for row, _ in below]
    if word == "windows":
        return windows_by_counting(below, *parts[:-1])
    assert word == "sittings"
    return sittings_by_counting(below, *parts[:-1])


def row_behind_all(stages, row):
    """Return what stages, the first one applied first, make of a row with its own time, or None."""
    time = row[0]
    for stage in stages:
        row = row_behind(stage, row)
        if row is None:
            return None
    return (time,) + row[1:]


def shown_by_counting(stages, changes):
    made = [(row_behind_all(stages, row), count) for row, count in changes]
    return bag_by_counting([(row, count) for row, count in made if row is not None])


def show_by_counting(stages):
    """Return the show of stages, by trying rows with all keys and values that could matter."""
    tried = values_that_matter(stages)
    keys = sorted({key for stage in stages if stage[0] == "only" for key in stage[1]})
    others = "others"
    passing = [
        (value, key)
        for value in tried
        for key in keys + [others]
        if row_behind_all(stages, (0, key, value)) is not None
    ]
    if not passing:
        return None
    values = sorted({value for value, _ in passing})
    low = None if values[0] == tried[0] else values[0]
    high = None if values[-1] == tried[-1] else values[-1]
    holes = tuple(value for value in tried if values[0] < value < values[-1] and value not in values)
    shown_keys = None if any(key == others for _, key in passing) else tuple(sorted({key for _, key in passing}))
    factor = 1
    name = None
    for stage in stages:
        if stage[0] == "scale":
            factor *= stage[1]
        elif stage[0] == "rekey":
            name = stage[1]
    return (shown_keys, low, high, holes, factor, name)


def values_that_matter(stages):
    """Return 0, all integers around those at which a sift changes, and two far beyond, ascending."""
    found = {0}
    factor = 1
    for stage in stages:
        if stage[0] == "scale":
            factor *= stage[1]
        elif stage[0] == "sift" and factor != 0:
            nearest = stage[2] // factor
            # Around it, as many as sifts could take away, one each.
            for step in range(-2 - len(stages), 3 + len(stages)):
                found.add(nearest + step)
    far = sum(abs(value) for value in found) + 1
    return sorted(found | {far, -far})


def operators_with_stages(plan, above=()):
    """Return for each operator of a plan that keeps rows (its word, the stages above it), inputs first."""
    word = plan[0]
    if word == "source":
        return []
    if word == "stage":
        return operators_with_stages(plan[2], (plan,) + above)
    found = []
    for below in plan[1:]:
        if isinstance(below, tuple):
            found += operators_with_stages(below, (plan,) + above)
    if word == "both":
        return found
    stages = []
    for passed in above:
        if passed[0] == "stage":
            stages.append(passed[1])
        elif passed[0] != "both":
            break
    return found + [(word, stages)]
