"""Bags, and changes of bags: lists of (row, count) in the order of the rows."""

from tidefold.errors import NotThere


def changes_of(pairs):
    """Return the changes with the counts of a list of (row, count), in any order, added up."""
    counts = {}
    for row, count in pairs:
        counts[row] = counts.get(row, 0) + count
    return [(row, counts[row]) for row in sorted(counts) if counts[row] != 0]


def added(bag, changes):
    """Return the bag with the changes. Raise NotThere if a count would be below 0."""
    found = changes_of(bag + changes)
    for _, count in found:
        if count < 0:
            # The row is not told: numbers of very many digits can't be written as text.
            raise NotThere("a row that is taken is not there as often as it is taken")
    return found


def between(before, after):
    """Return the changes from one bag to another."""
    return changes_of(after + [(row, -count) for row, count in before])


def final(bag, mark):
    """Return the rows of a bag with times before the mark, as a bag."""
    return [(row, count) for row, count in bag if row[0] < mark]


def not_final(bag, mark):
    """Return the rows of a bag with times from the mark on, as a bag."""
    return [(row, count) for row, count in bag if row[0] >= mark]


def count_of(bag, row):
    """Return the count of a row in a bag, 0 if it is not there."""
    for other, count in bag:
        if other == row:
            return count
    return 0
