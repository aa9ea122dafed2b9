"""Reads plans from their texts."""

from tidefold.errors import PlanError
from tidefold.plans import with_levels
from tidefold.reading import Reader

MOST_OPERATORS = 20
MOST_LEVELS = 10
SLIDES_IN_A_SIZE = 10
# The least and the greatest number of each kind.
RANGES = {
    "bound": (-1000000000, 1000000000),
    "factor": (-1000, 1000),
    "delay": (0, 1000),
    "size": (1, 1000),
    "slide": (1, 1000),
    "gap": (0, 1000),
    "before": (0, 1000),
    "after": (0, 1000),
}


def parse_plan(text):
    """Return the plan whose text this is."""
    reader = Reader(text)
    plan = reader.read_plan()
    check_numbers(reader.numbers)
    check_extent(plan, reader.first_place())
    return plan


def check_numbers(numbers):
    """Raise the error of the first number (part, value, place) that is out of range."""
    for at, (part, value, place) in enumerate(numbers):
        wrong = not in_range(part, value)
        if part == "size" and not wrong:
            # Behind each size stands its slide.
            wrong = is_too_wide(value, numbers[at + 1][1])
        if wrong:
            raise PlanError(place, "number out of range")


def in_range(part, value):
    """Return whether a part of a plan may have this value."""
    low, high = RANGES[part]
    return low <= value and value <= high


def is_too_wide(size, slide):
    """Return whether a size is too great for its slide. A slide out of range is its own error."""
    return in_range("slide", slide) and size > SLIDES_IN_A_SIZE * slide


def check_extent(plan, place):
    """Raise the error of a plan with too many operators or levels, at this place."""
    levels = [level for _, level in with_levels(plan)]
    if len(levels) > MOST_OPERATORS:
        raise PlanError(place, "too many operators")
    if max(levels) > MOST_LEVELS:
        raise PlanError(place, "too high")
