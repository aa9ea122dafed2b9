"""Plain counting: the lists of changes of points 30 to 34, and the first of them that tell two pasts apart."""

from counting import aggregate_of, bag_by_counting
from keeping import KEPT, differences, shown_changes


def points_of(view):
    _, low, high, holes, _, _ = view.show
    found = [0, 1]
    found += [] if low is None else [low]
    found += [] if high is None else [high, high + 1]
    for hole in holes:
        found += [hole, hole + 1]
    return found


def beside(numbers):
    return sorted({near for number in numbers for near in (number - 1, number, number + 1)})


def kept_differently(view, word, parts, pasts, marks):
    """Return for each input the final rows of which two pasts keep different numbers, ascending."""
    first, second = [KEPT[word](view, past, marks, parts) for past in pasts]
    return [
        [row for row, _ in differences(one, other) if row[0] < mark]
        for one, other, mark in zip(first, second, marks)
    ]


def away_from(bag, mark, key):
    return [(row, -count) for row, count in bag if row[1] == key and row[0] >= mark]


def first_told(view, word, parts, pasts, elements):
    """Return the first element that tells two pasts apart."""
    for changes in elements:
        told = [shown_changes(view, word, parts, past, changes) for past in pasts]
        if told[0] != told[1]:
            return changes
    raise AssertionError("nothing tells them apart")


def puts_of(view, place, key, aggregate, groups):
    """Return what the elements of the lists of points 31 and 32 put; groups are (value, count) of final rows."""
    points = points_of(view)
    if aggregate == "count":
        counts = {0} | {aggregate_of(group, "count") for group in groups}
        numbers = {0, 1} | set(beside([point - count for point in points for count in counts]))
        numbers = sorted(number for number in numbers if number >= 0)
        numbers += [numbers[-1] + 1, numbers[-1] + 2]
        return [[((place, key, 0), number)] if number else [] for number in numbers]
    if aggregate == "sum":
        sums = {0} | {aggregate_of(group, "sum") for group in groups}
        values = sorted({0, 1} | set(beside([point - total for point in points for total in sums])))
    else:
        values = beside(points + [aggregate_of(group, aggregate) for group in groups if group])
    return [[]] + [[((place, key, value), 1)] for value in values]


def windows_told(view, pasts, marks, parts):
    mark, = marks
    size, _, aggregate = parts
    differing, = kept_differently(view, "windows", parts, pasts, marks)
    if not differing:
        return None
    key = sorted(row[1] for row in differing)[0]
    start = sorted(row[0] for row in differing if row[1] == key)[-1]
    window = range(start, start + size)
    groups = []
    for (bag,) in pasts:
        groups.append([(row[2], count) for row, count in bag if row[1] == key and row[0] in window and row[0] < mark])
    away = [pair for pair in away_from(pasts[0][0], mark, key) if pair[0][0] in window]
    elements = [[bag_by_counting(away + put)] for put in puts_of(view, mark, key, aggregate, groups)]
    return first_told(view, "windows", parts, pasts, elements)


def sittings_told(view, pasts, marks, parts):
    mark, = marks
    gap, aggregate = parts
    differing, = kept_differently(view, "sittings", parts, pasts, marks)
    if not differing:
        return None
    key = sorted(row[1] for row in differing)[0]
    away = away_from(pasts[0][0], mark, key)
    places = {mark}
    groups = []
    for past in pasts:
        for row, _ in KEPT["sittings"](view, past, marks, parts)[0]:
            if row[1] == key and row[0] < mark:
                places |= {row[0] + gap, row[0] + gap + 1}
        groups += last_sitting(past[0], mark, key, gap)
    elements = [[away]]
    for place in sorted(place for place in places if place >= mark):
        elements += [[bag_by_counting(away + put)] for put in puts_of(view, place, key, aggregate, groups)]
    return first_told(view, "sittings", parts, pasts, elements)


def last_sitting(bag, mark, key, gap):
    """Return a list with the (value, count) of the last sitting of the final rows of a key, if it is in reach."""
    own = [(row, count) for row, count in bag if row[1] == key and row[0] < mark]
    if not own or own[-1][0][0] + gap < mark:
        return []
    begin = len(own) - 1
    while begin > 0 and own[begin][0][0] - own[begin - 1][0][0] <= gap:
        begin -= 1
    return [[(row[2], count) for row, count in own[begin:]]]


def near_told(view, pasts, marks, parts):
    before, after, combination = parts
    differing = kept_differently(view, "near", parts, pasts, marks)
    points = points_of(view) if view.show else []
    if differing[0]:
        side, stretch = 0, after
    elif differing[1]:
        side, stretch = 1, before
    else:
        return None
    time = max(row[0] for row in differing[side])
    key = min(row[1] for row in differing[side] if row[0] == time)
    there = {row[2] for past in pasts for row, _ in past[side] if row[:2] == (time, key) and time < marks[side]}
    if combination == ("left", "right")[side]:
        values = [0]
    elif combination in ("left", "right"):
        values = beside(points)
    elif combination == "sum":
        values = beside([point - value for point in points for value in there])
    elif side == 0:
        values = beside([value - point for point in points for value in there])
    else:
        values = beside([point + value for point in points for value in there])
    elements = []
    for value in values:
        put = [((time + stretch, key, value), 1)]
        elements.append([[], put] if side == 0 else [put, []])
    return first_told(view, "near", parts, pasts, elements)


def without_told(view, pasts, marks, parts):
    differing = kept_differently(view, "without", parts, pasts, marks)
    if differing[0]:
        time, key, _ = min(differing[0])
        there = [(row, -count) for row, count in pasts[0][1] if row[:2] == (time, key)]
        return [[], there or [((time, key, 0), 1)]]
    if differing[1]:
        time, key, _ = min(differing[1])
        return [[((time, key, view.token()), 1)], []]
    return None


def less_told(view, pasts, marks, parts):
    differing = kept_differently(view, "less", parts, pasts, marks)
    if not differing[0] and not differing[1]:
        return None
    side = 0 if differing[0] else 1
    row = min(differing[side])
    most = max(dict(past[side]).get(row, 0) for past in pasts)
    elements = []
    for many in (most, 0):
        more = many - dict(pasts[0][1 - side]).get(row, 0)
        change = [(row, more)] if more else []
        elements.append([[], change] if side == 0 else [change, []])
    return first_told(view, "less", parts, pasts, elements)


TOLD = {
    "windows": windows_told,
    "sittings": sittings_told,
    "near": near_told,
    "without": without_told,
    "less": less_told,
}


def small_changes(bags, marks, behind, key="a"):
    """Return all small changes: one row put once, twice or not, with rows that are not final taken away or not."""
    aways = [[[] for _ in bags]]
    for side, (bag, mark) in enumerate(zip(bags, marks)):
        late = [(row, -count) for row, count in bag if row[0] >= mark]
        if late:
            aways.append([late if at == side else [] for at in range(len(bags))])
    found = list(aways)
    for side, mark in enumerate(marks):
        for place in range(behind + 1):
            for value in range(-3, 4):
                for many in (1, 2):
                    for away in aways:
                        changes = list(away)
                        changes[side] = bag_by_counting(away[side] + [((mark + place, key, value), many)])
                        found.append(changes)
    return found
