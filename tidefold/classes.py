"""What a show, which is never None here, tells of single values."""


def is_shown(show, value):
    """Return whether a show shows rows with this value."""
    _, low, high, holes, _, _ = show
    if low is not None and value < low:
        return False
    if high is not None and value > high:
        return False
    return value not in holes


def shows_all(show):
    """Return whether a show shows rows with all values."""
    _, low, high, holes, _, _ = show
    return low is None and high is None and holes == ()


def run_of(show, value):
    """Return the least and the greatest integer of the run of a value, None where it has no end."""
    _, low, high, holes, _, _ = show
    if is_shown(show, value):
        # Between two holes: a hole lies between the bounds, so it is the nearer end.
        least = max([hole + 1 for hole in holes if hole < value], default=low)
        greatest = min([hole - 1 for hole in holes if hole > value], default=high)
        return least, greatest
    if value in holes:
        return end_of_holes(holes, value, -1), end_of_holes(holes, value, 1)
    if low is not None and value < low:
        return None, low - 1
    return high + 1, None


def end_of_holes(holes, hole, step):
    """Return the last hole from this one on, going by steps from hole to hole."""
    while hole + step in holes:
        hole += step
    return hole


def class_above(show, value):
    """Return the class of a value, seen from above."""
    least, greatest = run_of(show, value)
    return class_of(show, value, greatest, least)


def class_below(show, value):
    """Return the class of a value, seen from below."""
    least, greatest = run_of(show, value)
    return class_of(show, value, least, greatest)


def class_of(show, value, near_end, far_end):
    """Return the class of a value, seen from the side on which the near end of its run lies."""
    in_view = is_shown(show, value)
    if in_view and show[4] != 0:
        return value
    if near_end is not None:
        return near_end
    if not in_view:
        return None
    return 0 if far_end is None else far_end


def count_limit(show):
    """Return the number from which on all numbers of rows tell the same, None if there is none."""
    _, low, high, holes, factor, _ = show
    if high is not None:
        return high + 1 if high > 0 else 0
    if factor != 0:
        return None
    least = 1 if low is None else max(1, low)
    return max([least] + [hole + 1 for hole in holes])


def token(show):
    """Return the integer that is shown and nearest to 0, of two the positive one."""
    _, low, high, holes, _, _ = show
    up = 0 if low is None else max(0, low)
    down = 0 if high is None else min(0, high)
    while up in holes:
        up += 1
    while down in holes:
        down -= 1
    if not is_shown(show, up):
        return down
    return down if is_shown(show, down) and -down < up else up


def points(show):
    """Return the points of a show: 0, 1, and numbers at which values begin to be shown or not to be shown."""
    _, low, high, holes, _, _ = show
    found = [0, 1]
    if low is not None:
        found.append(low)
    if high is not None:
        found.extend([high, high + 1])
    for hole in holes:
        found.extend([hole, hole + 1])
    return sorted(set(found))
