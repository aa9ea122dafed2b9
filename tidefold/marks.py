"""Marks of results: the times before which no possible changes of the inputs change them."""

from tidefold.bags import final
from tidefold.kept import keep_once, keep_sittings, keep_windows
from tidefold.kept_pairs import keep_less, keep_near, keep_without, open_rows
from tidefold.meaning import result_of
from tidefold.operators import first_open
from tidefold.plans import KEEPING
from tidefold.shows import steps_with_shows


def windows_mark(mark, size, slide):
    """Return the mark of windows, if that of their input is given."""
    return first_open(mark, size, slide) + size - 1


def sittings_mark(bag, mark, gap):
    """Return the mark of the sittings of a bag."""
    lasts = {}
    for row, _ in final(bag, mark):
        lasts[row[1]] = row[0]
    ends = [last + gap for last in lasts.values()]
    return min([mark + gap] + [end for end in ends if end >= mark])


def near_mark(left, right, left_mark, right_mark, before, after):
    """Return the mark of what near makes of two bags."""
    found = [max(left_mark, right_mark)]
    for row, _ in open_rows(right, right_mark, before, left_mark):
        found.append(max(left_mark, row[0]))
    for row, _ in open_rows(left, left_mark, after, right_mark):
        found.append(max(right_mark, row[0]))
    return min(found)


def without_mark(left, left_mark, right_mark):
    """Return the mark of what without or less makes of a left bag and of any right one."""
    return min([left_mark] + [row[0] for row, _ in open_rows(left, left_mark, 0, right_mark)])


def plan_mark(plan, tables, marks):
    """Return the mark of a plan for the bags and the marks of its sources."""
    results = []
    found = []
    for inner, places, show in steps_with_shows(plan):
        bags = [results[place] for place in places]
        below = [found[place] for place in places]
        results.append(tables[inner[1]] if inner[0] == "source" else result_of(inner, bags))
        found.append(step_mark(inner, marks, below, kept_by(inner, bags, below, show)))
    return found[-1]


def kept_by(plan, bags, below, show):
    """Return what the outermost operator of a plan keeps of the bags of its inputs, with the marks of these below."""
    word = plan[0]
    if word not in KEEPING:
        return []
    if word == "once":
        return [keep_once(bags[0], below[0], show)]
    if word == "windows":
        return [keep_windows(bags[0], below[0], plan[1], plan[2], plan[3], show)]
    if word == "sittings":
        return [keep_sittings(bags[0], below[0], plan[1], plan[2], show)]
    if word == "near":
        return list(keep_near(bags[0], bags[1], below[0], below[1], plan[1], plan[2], plan[3], show))
    if word == "without":
        return list(keep_without(bags[0], bags[1], below[0], below[1], show))
    return list(keep_less(bags[0], bags[1], below[0], below[1], show))


def step_mark(plan, marks, below, kept):
    """Return the mark of a source, or of an operator from the marks of its inputs and what it keeps of them."""
    word = plan[0]
    if word == "source":
        return marks[plan[1]]
    if word == "windows":
        return windows_mark(below[0], plan[1], plan[2])
    if word == "sittings":
        return sittings_mark(kept[0], below[0], plan[1])
    if word == "near":
        return near_mark(kept[0], kept[1], below[0], below[1], plan[1], plan[2])
    if word in ("less", "without"):
        return without_mark(kept[0], below[0], below[1])
    if word == "stage" and plan[1][0] == "later":
        return below[0] + plan[1][1]
    # Of both the lesser one; a stage and once have one input.
    return min(below)
