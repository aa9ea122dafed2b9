"""Plain counting: marks, classes and what is kept, as points 17 and 21 to 28 say it, without the code under test.

What is shown is always found out by putting rows through stages, one after the other.
"""

from counting import (
    aggregate_of,
    bag_by_counting,
    near_by_counting,
    less_by_counting,
    listed,
    result_by_counting,
    row_behind_all,
    show_by_counting,
    shown_by_counting,
    sittings_by_counting,
    summed,
    values_that_matter,
    windows_by_counting,
    without_by_counting,
)

OTHERS = "others"


class View:
    """What stages show of rows, found by trying keys and values."""

    def __init__(self, stages):
        self.stages = stages
        self.show = show_by_counting(stages)
        self.factor = 1
        keys = [OTHERS]
        for stage in stages:
            if stage[0] == "scale":
                self.factor *= stage[1]
            elif stage[0] == "only":
                keys += stage[1]
        tried = values_that_matter(stages)
        shown = [key for key in keys if any(self.shows((0, key, value)) for value in tried)]
        self.runs = []
        if shown:
            self.runs = self.runs_of(tried, shown[0])

    def shows(self, row):
        return row_behind_all(self.stages, row) is not None

    def runs_of(self, tried, key):
        """Return all runs as [least, greatest, whether they are shown], None where there is no end."""
        found = []
        for value in tried:
            inside = self.shows((0, key, value))
            if found and found[-1][2] == inside:
                found[-1][1] = value
            else:
                assert not found or found[-1][1] == value - 1
                found.append([value, value, inside])
        found[0][0] = None
        found[-1][1] = None
        return found

    def run_of(self, value):
        for least, greatest, inside in self.runs:
            if (least is None or least <= value) and (greatest is None or value <= greatest):
                return least, greatest, inside
        raise AssertionError(value)

    def shows_value(self, value):
        return self.run_of(value)[2]

    def shows_key(self, key):
        wanted = [stage[1] for stage in self.stages if stage[0] == "rekey" or stage[0] == "only"]
        for keys in wanted:
            if isinstance(keys, str):
                key = keys
            elif key not in keys:
                return False
        return self.show is not None

    def shows_all(self):
        return len(self.runs) == 1 and self.runs[0][2]

    def class_of(self, value, side):
        """Return the class of a value, seen from the side "above" or "below"."""
        least, greatest, inside = self.run_of(value)
        if inside and self.factor != 0:
            return value
        near, far = {"above": (greatest, least), "below": (least, greatest)}[side]
        for end in ((near, far) if inside else (near,)):
            if end is not None:
                return end
        return 0 if inside else None

    def count_limit(self):
        positive = [run for run in self.runs if run[2] and (run[1] is None or run[1] >= 1)]
        if not positive:
            return 0
        if positive[-1][1] is not None:
            return positive[-1][1] + 1
        if self.factor != 0:
            return None
        begins = positive[-1][0]
        return 1 if begins is None else max(begins, 1)

    def token(self):
        found = []
        for least, greatest, inside in self.runs:
            if inside:
                value = 0
                if least is not None and least > 0:
                    value = least
                if greatest is not None and greatest < 0:
                    value = greatest
                found.append((abs(value), -value, value))
        return min(found)[2]


def not_final_of(view, bag, mark):
    return [(row, count) for row, count in bag if row[0] - mark >= 0 and view.shows_key(row[1])]


def shown_final_of(view, bag, mark):
    return [(row, count) for row, count in bag if row[0] - mark < 0 and view.shows_key(row[1])]


def keys_of(pairs):
    return sorted({row[1] for row, _ in pairs})


def once_kept(view, bag, mark):
    return not_final_of(view, bag, mark)


def windows_kept(view, bag, mark, size, slide, aggregate):
    """Go through all window starts from before the first final row to the mark."""
    found = not_final_of(view, bag, mark)
    past = shown_final_of(view, bag, mark)
    for key in keys_of(past):
        groups = []
        for (time, of, value), count in past:
            if of != key:
                continue
            start = [begin for begin in range(time - slide + 1, time + 1) if begin % slide == 0][0]
            window = range(start, start + size)
            if window[-1] >= mark and time in window:
                groups.append((start, value, count))
        for start in {begin for begin, _, _ in groups}:
            own = [(value, count) for begin, value, count in groups if begin == start]
            behind = [(value, count) for begin, value, count in groups if begin > start]
            found += group_kept(view, start, key, own, behind, aggregate)
    return bag_by_counting(found)


def sittings_kept(view, bag, mark, gap, aggregate):
    found = not_final_of(view, bag, mark)
    past = shown_final_of(view, bag, mark)
    for key in keys_of(past):
        times = sorted({row[0] for row, _ in past if row[1] == key}, reverse=True)
        last = times[0]
        if last + gap < mark:
            continue
        begin = last
        for time in times:
            if begin - time <= gap:
                begin = time
        own = [(row[2], count) for row, count in past if row[1] == key and row[0] >= begin]
        found += group_kept(view, last, key, own, [], aggregate)
    return bag_by_counting(found)


def group_kept(view, place, key, own, behind, aggregate):
    """Return what is kept of a group, if the pairs of values and counts of all groups behind it are given."""
    if aggregate == "count":
        many = aggregate_of(own, "count")
        limit = view.count_limit()
        if limit is not None:
            many = max(0, min(many, limit - aggregate_of(behind, "count")))
        return [((place, key, 0), many)]
    if aggregate == "sum":
        if view.factor == 0 and view.shows_all():
            return [] if behind else [((place, key, 0), 1)]
        total = aggregate_of(own, "sum")
        if total == 0 and (behind or not view.shows_value(0)):
            return []
        return [((place, key, total), 1)]
    side = {"least": "above", "greatest": "below"}[aggregate]
    worth = view.class_of(aggregate_of(own + behind, aggregate), side)
    if worth is None or behind and worth == view.class_of(aggregate_of(behind, aggregate), side):
        return []
    return [((place, key, worth), 1)]


def with_tokens(view, pairs):
    """Return the rows with shown values, with the token as their value if the factor is 0."""
    found = [(row, count) for row, count in pairs if view.shows_value(row[2])]
    return found if view.factor != 0 else with_worth(found, view.token())


def with_worth(pairs, worth):
    return [((time, key, worth), count) for (time, key, _), count in pairs]


def near_kept(view, left, right, left_mark, right_mark, before, after, combination):
    past = shown_final_of(view, left, left_mark)
    past = [(row, count) for row, count in past if row[0] >= right_mark - after]
    back = shown_final_of(view, right, right_mark)
    back = [(row, count) for row, count in back if row[0] >= left_mark - before]
    if view.show is None:
        return [], []
    if combination == "left":
        past, back = with_tokens(view, past), with_worth(back, 0)
    elif combination == "right":
        past, back = with_worth(past, 0), with_tokens(view, back)
    elif view.factor == 0 and view.shows_all():
        past, back = with_worth(past, 0), with_worth(back, 0)
    return (
        bag_by_counting(past + not_final_of(view, left, left_mark)),
        bag_by_counting(back + not_final_of(view, right, right_mark)),
    )


def without_kept(view, left, right, left_mark, right_mark):
    if view.show is None:
        return [], []
    past = [pair for pair in shown_final_of(view, left, left_mark) if pair[0][0] >= right_mark]
    places = {row[:2] for row, _ in shown_final_of(view, right, right_mark) if row[0] >= left_mark}
    return (
        bag_by_counting(with_tokens(view, past) + not_final_of(view, left, left_mark)),
        bag_by_counting([(place + (0,), 1) for place in places] + not_final_of(view, right, right_mark)),
    )


def less_kept(view, left, right, left_mark, right_mark):
    if view.show is None:
        return [], []
    past = [pair for pair in shown_final_of(view, left, left_mark) if pair[0][0] >= right_mark]
    back = [pair for pair in shown_final_of(view, right, right_mark) if pair[0][0] >= left_mark]
    return (
        listed(dict([pair for pair in past if view.shows_value(pair[0][2])] + not_final_of(view, left, left_mark))),
        listed(dict([pair for pair in back if view.shows_value(pair[0][2])] + not_final_of(view, right, right_mark))),
    )


def windows_mark_by_counting(mark, size, slide):
    while (mark - size + 1) % slide != 0:
        mark += 1
    return mark


def sittings_mark_by_counting(bag, mark, gap):
    found = [mark + gap]
    for key in keys_of(bag):
        times = [row[0] for row, _ in bag if row[1] == key and row[0] < mark]
        if times and max(times) + gap >= mark:
            found.append(max(times) + gap)
    return min(found)


def near_mark_by_counting(left, right, left_mark, right_mark, before, after):
    found = [max(left_mark, right_mark)]
    found += [max(left_mark, row[0]) for row, _ in right if left_mark - before <= row[0] < right_mark]
    found += [max(right_mark, row[0]) for row, _ in left if right_mark - after <= row[0] < left_mark]
    return min(found)


def without_mark_by_counting(left, left_mark, right_mark):
    return min([left_mark] + [row[0] for row, _ in left if right_mark <= row[0] < left_mark])


def changed(bag, changes):
    """Return a bag with changes."""
    found = bag_by_counting(bag + changes)
    assert all(count > 0 for _, count in found), "no possible changes"
    return found


def differences(before, after):
    return listed(summed(after + [(row, -count) for row, count in before]))


# What operators make of a list of bags, by plain counting.
MADE = {
    "once": lambda parts, bags: [(row, 1) for row, _ in bags[0]],
    "windows": lambda parts, bags: windows_by_counting(bags[0], *parts),
    "sittings": lambda parts, bags: sittings_by_counting(bags[0], *parts),
    "near": lambda parts, bags: near_by_counting(bags[0], bags[1], *parts),
    "without": lambda parts, bags: without_by_counting(*bags),
    "less": lambda parts, bags: less_by_counting(*bags),
}
# What they keep of a list of bags with a list of marks.
KEPT = {
    "once": lambda view, bags, marks, parts: [once_kept(view, bags[0], marks[0])],
    "windows": lambda view, bags, marks, parts: [windows_kept(view, bags[0], marks[0], *parts)],
    "sittings": lambda view, bags, marks, parts: [sittings_kept(view, bags[0], marks[0], *parts)],
    "near": lambda view, bags, marks, parts: list(near_kept(view, *bags, *marks, *parts)),
    "without": lambda view, bags, marks, parts: list(without_kept(view, *bags, *marks)),
    "less": lambda view, bags, marks, parts: list(less_kept(view, *bags, *marks)),
}


def shown_changes(view, word, parts, bags, changes):
    """Return the shown changes of the result of an operator for bags and changes of them."""
    after = [changed(bag, more) for bag, more in zip(bags, changes)]
    return shown_by_counting(view.stages, differences(MADE[word](parts, bags), MADE[word](parts, after)))


def with_keys_shown(view, changes):
    return [(row, count) for row, count in changes if view.shows_key(row[1])]


def plan_told(plan, tables, marks, above=()):
    """Return the result of a plan, its mark, and what its operators keep, by points 17 to 28 and 39."""
    word, *parts = plan
    if word == "source":
        return bag_by_counting(tables[parts[0]]), marks[parts[0]], []
    if word == "stage":
        bag, mark, kept = plan_told(parts[1], tables, marks, (parts[0],) + above)
        stage = parts[0]
        return result_of_stage(stage, bag), mark + (stage[1] if stage[0] == "later" else 0), kept
    two = word in ("both", "less", "without", "near")
    inputs = parts[-2:] if two else parts[-1:]
    parts = parts[:-2] if two else parts[:-1]
    told = [plan_told(below, tables, marks, above if word == "both" else ()) for below in inputs]
    bags = [bag for bag, _, _ in told]
    below = [mark for _, mark, _ in told]
    kept = [bags_kept for _, _, inner in told for bags_kept in inner]
    if word == "both":
        return bag_by_counting(bags[0] + bags[1]), min(below), kept
    own = KEPT[word](View(list(above)), bags, below, parts)
    return MADE[word](parts, bags), mark_by_counting(word, parts, own, below), kept + [own]


def result_of_stage(stage, bag):
    return result_by_counting(("stage", stage, ("source", "a")), {"a": bag})


def mark_by_counting(word, parts, kept, below):
    if word == "once":
        return below[0]
    if word == "windows":
        return windows_mark_by_counting(below[0], parts[0], parts[1])
    if word == "sittings":
        return sittings_mark_by_counting(kept[0], below[0], parts[0])
    if word == "near":
        return near_mark_by_counting(kept[0], kept[1], below[0], below[1], parts[0], parts[1])
    return without_mark_by_counting(kept[0], below[0], below[1])
