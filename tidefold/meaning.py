"""What plans mean: their results for the bags of their sources."""

from tidefold.bags import added
from tidefold.operators import less, near, once, sittings, staged, windows, without
from tidefold.plans import PAIRS, inputs_of


def result(plan, tables):
    """Return the result of a plan for the bags of its sources, a dict from names."""
    if plan[0] == "source":
        return list(tables[plan[1]])
    return result_of(plan, [result(below, tables) for below in inputs_of(plan)])


def result_of(plan, bags):
    """Return the result of the outermost operator or stage of a plan for the bags of its inputs."""
    if plan[0] in PAIRS:
        return result_of_pair(plan, bags[0], bags[1])
    return result_of_single(plan, bags[0])


def result_of_single(plan, bag):
    """Return the result of the outermost operator or stage of a plan, which has one input."""
    if plan[0] == "stage":
        return staged(plan[1], bag)
    if plan[0] == "once":
        return once(bag)
    if plan[0] == "windows":
        return windows(bag, plan[1], plan[2], plan[3])
    return sittings(bag, plan[1], plan[2])


def result_of_pair(plan, left, right):
    """Return the result of the outermost operator of a plan, which has two inputs."""
    if plan[0] == "both":
        return added(left, right)
    if plan[0] == "less":
        return less(left, right)
    if plan[0] == "without":
        return without(left, right)
    return near(left, right, plan[1], plan[2], plan[3])
