"""What has to be kept of the rows of one input that can change no more."""

from tidefold.bags import changes_of, final, not_final
from tidefold.classes import class_above, class_below, count_limit, is_shown, shows_all
from tidefold.operators import aggregated, divided
from tidefold.shows import with_shown_keys


def keep_once(bag, mark, show):
    """Return what the operator once keeps of a bag."""
    return kept_with(bag, mark, [], show)


def keep_windows(bag, mark, size, slide, aggregate, show):
    """Return what windows keep of a bag."""
    if show is None:
        return []
    found = []
    by_key = open_groups(final(bag, mark), mark, size, slide)
    for key in by_key:
        found.extend(kept_of_groups(key, by_key[key], aggregate, show))
    return kept_with(bag, mark, found, show)


def keep_sittings(bag, mark, gap, aggregate, show):
    """Return what sittings keep of a bag."""
    if show is None:
        return []
    found = []
    for time, key, rows in open_sittings(bag, mark, gap):
        found.extend(kept_of_groups(key, [(time, rows)], aggregate, show))
    return kept_with(bag, mark, found, show)


def kept_with(bag, mark, instead, show):
    """Return the rows that are not final with those kept instead of the final ones, if their keys are shown."""
    if show is None:
        return []
    return changes_of(with_shown_keys(show, not_final(bag, mark) + instead))


def open_groups(bag, mark, size, slide):
    """Return for each key the groups (first time, rows) of final rows whose window is open, the last one first."""
    by_key = {}
    for row, count in bag:
        time, key, _ = row
        start = time // slide * slide
        if start + size - 1 >= mark:
            by_key.setdefault(key, {}).setdefault(start, []).append((row, count))
    found = {}
    for key, groups in by_key.items():
        found[key] = [(start, groups[start]) for start in sorted(groups, reverse=True)]
    return found


def open_sittings(bag, mark, gap):
    """Return for each key whose last final row is still in reach this row's time, the key and the sitting."""
    latest = {}
    for rows in divided(final(bag, mark), gap):
        latest[rows[-1][0][1]] = rows
    found = []
    for key, rows in latest.items():
        time = rows[-1][0][0]
        if time + gap >= mark:
            found.append((time, key, rows))
    return found


def kept_of_groups(key, groups, aggregate, show):
    """Return what is kept of the groups (time, rows) of a key, the last one first."""
    if aggregate == "count":
        return kept_counts(key, groups, count_limit(show))
    if aggregate == "sum":
        return kept_sums(key, groups, show)
    return kept_extremes(key, groups, aggregate, show)


def kept_counts(key, groups, limit):
    """Return the rows that are kept of groups that are counted, up to a limit."""
    found = []
    total = 0
    for time, rows in groups:
        many = aggregated(rows, "count")
        if limit is not None:
            many = min(many, limit - total)
        total = total + many
        found.append(((time, key, 0), many))
    return changes_of(found)


def kept_sums(key, groups, show):
    """Return the rows that are kept of groups that are summed."""
    if show[4] == 0 and shows_all(show):
        return [((groups[0][0], key, 0), 1)]
    found = []
    for at, (time, rows) in enumerate(groups):
        total = aggregated(rows, "sum")
        if total != 0 or at == 0 and is_shown(show, 0):
            found.append(((time, key, total), 1))
    return found


def kept_extremes(key, groups, aggregate, show):
    """Return the rows that are kept of groups of which the least or the greatest value counts."""
    found = []
    seen = []
    behind = None
    for time, rows in groups:
        # The values of this group and of all groups behind it.
        seen = seen + rows
        worth = aggregated(seen, aggregate)
        worth = class_above(show, worth) if aggregate == "least" else class_below(show, worth)
        if worth is not None and worth != behind:
            found.append(((time, key, worth), 1))
        behind = worth
    return found
