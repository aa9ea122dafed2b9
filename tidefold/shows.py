"""Shows: what the stages above an operator show of its result."""

from tidefold.bags import changes_of
from tidefold.classes import is_shown
from tidefold.operators import satisfies
from tidefold.plans import KEEPING, inputs_of, steps_of

# The show of no stages: (keys, low, high, holes, factor, name).
ALL = (None, None, None, (), 1, None)


def narrowed(show, stage):
    """Return the show behind which a stage is applied, as the last one."""
    if show is None:
        return None
    keys, low, high, holes, factor, name = show
    if stage[0] == "sift":
        return sifted(show, stage[1], stage[2])
    if stage[0] == "only":
        return with_keys(show, stage[1])
    if stage[0] == "rekey":
        return (keys, low, high, holes, factor, stage[1])
    if stage[0] == "scale":
        return (keys, low, high, holes, factor * stage[1], name)
    return show


def with_keys(show, wanted):
    """Return the show of those rows that are shown with one of the keys wanted."""
    keys, low, high, holes, factor, name = show
    if name is not None:
        return show if name in wanted else None
    common = tuple([key for key in wanted if keys is None or key in keys])
    if common == ():
        return None
    return (common, low, high, holes, factor, name)


def sifted(show, comparison, bound):
    """Return the show of those rows that are shown with a value that satisfies a comparison."""
    keys, low, high, holes, factor, name = show
    if factor == 0:
        return show if satisfies(0, comparison, bound) else None
    if comparison == "!=":
        if bound % factor == 0:
            holes = tuple(sorted(set(holes + (bound // factor,))))
    else:
        least, greatest = bounds_of(comparison, bound, factor)
        low = max(those_given(low, least), default=None)
        high = min(those_given(high, greatest), default=None)
    return tightened((keys, low, high, holes, factor, name))


def bounds_of(comparison, bound, factor):
    """Return the least and the greatest value (or None) that, times the factor, satisfies a comparison."""
    least = greatest = None
    if comparison in ("=", ">=", ">"):
        least = bound + 1 if comparison == ">" else bound
    if comparison in ("=", "<=", "<"):
        greatest = bound - 1 if comparison == "<" else bound
    if factor < 0:
        least, greatest = greatest, least
    if least is not None:
        # Divided upwards: what is below the quotient is too little.
        least = -(-least // factor)
    if greatest is not None:
        greatest = greatest // factor
    return least, greatest


def those_given(first, second):
    """Return a list of those of two bounds that are not None."""
    return [bound for bound in (first, second) if bound is not None]


def tightened(show):
    """Return a show written in the one way: its bounds are shown, and its holes lie between them."""
    keys, low, high, holes, factor, name = show
    while low is not None and low in holes:
        low += 1
    while high is not None and high in holes:
        high -= 1
    if low is not None and high is not None and low > high:
        return None
    bounds = (keys, low, high, (), factor, name)
    inner = tuple([hole for hole in holes if is_shown(bounds, hole)])
    return (keys, low, high, inner, factor, name)


def shown(show, changes):
    """Return what is shown of changes of a result, as changes."""
    if show is None:
        return []
    return changes_of([(as_shown(show, row), count) for row, count in changes if shows_row(show, row)])


def shows_row(show, row):
    """Return whether a show, which is not None, shows a row."""
    return shows_key(show, row) and is_shown(show, row[2])


def shows_key(show, row):
    """Return whether a show, which is not None, shows the key of a row."""
    return show[0] is None or row[1] in show[0]


def with_shown_keys(show, changes):
    """Return those of the changes whose keys a show, which is not None, shows."""
    return [(row, count) for row, count in changes if shows_key(show, row)]


def as_shown(show, row):
    """Return what a row that is shown is shown as."""
    time, key, value = row
    factor, name = show[4:]
    return (time, key if name is None else name, factor * value)


def shows(plan):
    """Return the shows of all operators of a plan that keep rows, inputs before their operator."""
    return shows_within(plan, ())


def steps_with_shows(plan):
    """Return the steps of a plan as (plan, places of its inputs, show), the show None if it keeps no rows."""
    waiting = shows(plan)[::-1]
    found = []
    for inner, places in steps_of(plan):
        show = waiting.pop() if inner[0] in KEEPING else None
        found.append((inner, places, show))
    return found


def shows_within(plan, above):
    """Return the shows of the operators of a plan over which stages stand, the lowest one first."""
    found = []
    for below in inputs_of(plan):
        found.extend(shows_within(below, stages_above_inputs(plan, above)))
    if plan[0] in KEEPING:
        found.append(show_of(above))
    return found


def stages_above_inputs(plan, above):
    """Return the stages over the inputs of a plan, if those over the plan are above."""
    if plan[0] == "stage":
        return (plan[1],) + above
    return above if plan[0] == "both" else ()


def show_of(stages):
    """Return the show of stages, of which the first one is applied first."""
    show = ALL
    for stage in stages:
        show = narrowed(show, stage)
    return show
