"""Changes that tell apart two bags of which sittings keep different rows."""

from tidefold.bags import added, between, changes_of, final, not_final
from tidefold.kept import keep_sittings, open_sittings
from tidefold.operators import sittings
from tidefold.shows import shown
from tidefold.tell_windows import differing_rows, lists_to_put, of_key, taken_away


def tell_sittings(first, second, mark, gap, aggregate, show):
    """Return None if sittings keep the same of two bags, otherwise changes that tell them apart."""
    kept = [keep_sittings(bag, mark, gap, aggregate, show) for bag in (first, second)]
    differing = differing_rows(kept[0], kept[1], mark)
    if differing == []:
        return None
    key = min([row[1] for row in differing])
    bags = [of_key(bag, key) for bag in (first, second)]
    taken = taken_away(not_final(bags[0], mark))
    groups = [rows for bag in bags for _, _, rows in open_sittings(bag, mark, gap)]
    lists = [[]]
    for time in times_to_put(of_key(kept[0] + kept[1], key), mark, gap):
        lists.extend(lists_to_put(time, key, aggregate, show, groups))
    for rows in lists:
        changes = changes_of(taken + rows)
        told = [told_by_sittings(bag, changes, gap, aggregate, show) for bag in bags]
        if told[0] != told[1]:
            return changes
    return None


def told_by_sittings(bag, changes, gap, aggregate, show):
    """Return the shown changes of the sittings of a bag."""
    before = sittings(bag, gap, aggregate)
    after = sittings(added(bag, changes), gap, aggregate)
    return shown(show, between(before, after))


def times_to_put(kept, mark, gap):
    """Return the times at which rows are put: the mark, and where the reach of kept final rows ends."""
    ends = [row[0] + gap for row, _ in final(kept, mark)]
    found = [mark] + ends + [end + 1 for end in ends]
    return sorted(set([time for time in found if time >= mark]))
