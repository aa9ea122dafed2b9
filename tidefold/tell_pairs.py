"""Changes that tell apart two pairs of bags of which operators with two inputs keep different rows."""

from tidefold.bags import added, between, count_of, final
from tidefold.classes import points, token
from tidefold.kept_pairs import keep_less, keep_near, keep_without
from tidefold.operators import less, near
from tidefold.shows import shown
from tidefold.tell_windows import around, differing_rows, taken_away


def tell_near(first, second, left_mark, right_mark, before, after, combination, show):
    """Return None if near keeps the same of two pairs, otherwise changes of both inputs that tell them apart."""
    kept = [
        keep_near(left, right, left_mark, right_mark, before, after, combination, show)
        for left, right in (first, second)
    ]
    of_left, of_right = differing_pairs(kept[0], kept[1], left_mark, right_mark)
    if of_left != []:
        time, key = last_place(of_left)
        values = values_at(first[0] + second[0], left_mark, time, key)
        tried = [([], [((time + after, key, value), 1)]) for value in right_values(combination, show, values)]
    elif of_right != []:
        time, key = last_place(of_right)
        values = values_at(first[1] + second[1], right_mark, time, key)
        tried = [([((time + before, key, value), 1)], []) for value in left_values(combination, show, values)]
    else:
        return None
    for changes in tried:
        told = [told_by_near(pair, changes, before, after, combination, show) for pair in (first, second)]
        if told[0] != told[1]:
            return changes
    return None


def differing_pairs(first, second, left_mark, right_mark):
    """Return the final rows that are not there equally often in two pairs of bags, for each side."""
    return differing_rows(first[0], second[0], left_mark), differing_rows(first[1], second[1], right_mark)


def last_place(rows):
    """Return the greatest time of rows, and the least key at this time."""
    time = max([row[0] for row in rows])
    return time, min([row[1] for row in rows if row[0] == time])


def values_at(rows, mark, time, key):
    """Return the values of the final rows with this time and key."""
    return [row[2] for row, _ in final(rows, mark) if row[:2] == (time, key)]


def right_values(combination, show, values):
    """Return the values of the rows that are put to the right to tell left rows with these values apart."""
    if combination == "left":
        return [0]
    found = points(show)
    if combination == "sum":
        found = [point - value for point in found for value in values]
    elif combination == "difference":
        found = [value - point for point in found for value in values]
    return sorted(set(around(found)))


def left_values(combination, show, values):
    """Return the values of the rows that are put to the left to tell right rows with these values apart."""
    if combination == "right":
        return [0]
    found = points(show)
    if combination == "sum":
        found = [point - value for point in found for value in values]
    elif combination == "difference":
        found = [point + value for point in found for value in values]
    return sorted(set(around(found)))


def told_by_near(pair, changes, before, after, combination, show):
    """Return the shown changes of what near makes of a pair of bags."""
    made = near(pair[0], pair[1], before, after, combination)
    left = added(pair[0], changes[0])
    right = added(pair[1], changes[1])
    return shown(show, between(made, near(left, right, before, after, combination)))


def tell_without(first, second, left_mark, right_mark, show):
    """Return None if without keeps the same of two pairs, otherwise changes of both inputs that tell them apart."""
    kept = [keep_without(left, right, left_mark, right_mark, show) for left, right in (first, second)]
    of_left, of_right = differing_pairs(kept[0], kept[1], left_mark, right_mark)
    if of_left != []:
        time, key, _ = of_left[0]
        there = [(row, count) for row, count in first[1] if row[:2] == (time, key)]
        return [], taken_away(there) if there != [] else [((time, key, 0), 1)]
    if of_right != []:
        time, key, _ = of_right[0]
        return [((time, key, token(show)), 1)], []
    return None


def tell_less(first, second, left_mark, right_mark, show):
    """Return None if less keeps the same of two pairs, otherwise changes of both inputs that tell them apart."""
    kept = [keep_less(left, right, left_mark, right_mark, show) for left, right in (first, second)]
    of_left, of_right = differing_pairs(kept[0], kept[1], left_mark, right_mark)
    if of_left != []:
        row = of_left[0]
        most = max(count_of(first[0], row), count_of(second[0], row))
        tried = [([], change_to(first[1], row, many)) for many in (most, 0)]
    elif of_right != []:
        row = of_right[0]
        most = max(count_of(first[1], row), count_of(second[1], row))
        tried = [(change_to(first[0], row, many), []) for many in (most, 0)]
    else:
        return None
    for changes in tried:
        told = [told_by_less(pair, changes, show) for pair in (first, second)]
        if told[0] != told[1]:
            return changes
    return None


def change_to(bag, row, many):
    """Return the changes after which a row is there so many times."""
    more = many - count_of(bag, row)
    return [(row, more)] if more != 0 else []


def told_by_less(pair, changes, show):
    """Return the shown changes of what less makes of a pair of bags."""
    made = less(pair[0], pair[1])
    return shown(show, between(made, less(added(pair[0], changes[0]), added(pair[1], changes[1]))))
