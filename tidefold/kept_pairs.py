"""What has to be kept of the rows of two inputs that can change no more."""

from tidefold.bags import final
from tidefold.classes import is_shown, shows_all, token
from tidefold.kept import kept_with


def keep_near(left, right, left_mark, right_mark, before, after, combination, show):
    """Return what near keeps of both bags."""
    if show is None:
        return [], []
    of_left = open_rows(left, left_mark, after, right_mark)
    of_right = open_rows(right, right_mark, before, left_mark)
    of_left = combined_rows(of_left, "left", combination, show)
    of_right = combined_rows(of_right, "right", combination, show)
    return kept_with(left, left_mark, of_left, show), kept_with(right, right_mark, of_right, show)


def keep_without(left, right, left_mark, right_mark, show):
    """Return what without keeps of both bags."""
    if show is None:
        return [], []
    of_left = shown_rows(open_rows(left, left_mark, 0, right_mark), show)
    places = [row[:2] for row, _ in open_rows(right, right_mark, 0, left_mark)]
    of_right = [((time, key, 0), 1) for time, key in sorted(set(places))]
    return kept_with(left, left_mark, of_left, show), kept_with(right, right_mark, of_right, show)


def keep_less(left, right, left_mark, right_mark, show):
    """Return what less keeps of both bags."""
    if show is None:
        return [], []
    of_left = with_shown_values(open_rows(left, left_mark, 0, right_mark), show)
    of_right = with_shown_values(open_rows(right, right_mark, 0, left_mark), show)
    return kept_with(left, left_mark, of_left, show), kept_with(right, right_mark, of_right, show)


def open_rows(bag, mark, stretch, other_mark):
    """Return the final rows to which rows of the other input can still come that lie at most a stretch later."""
    return [(row, count) for row, count in final(bag, mark) if row[0] + stretch >= other_mark]


def with_shown_values(rows, show):
    """Return the rows whose values are shown."""
    return [(row, count) for row, count in rows if is_shown(show, row[2])]


def shown_rows(rows, show):
    """Return the rows whose values are shown, with equal values if they are shown as equal ones."""
    found = with_shown_values(rows, show)
    return with_value(found, token(show)) if show[4] == 0 else found


def with_value(rows, value):
    """Return rows with this value instead of their own. Rows that become equal stand several times."""
    return [((row[0], row[1], value), count) for row, count in rows]


def combined_rows(rows, side, combination, show):
    """Return what near keeps of the open rows of a side instead of them."""
    if combination == side:
        return shown_rows(rows, show)
    if combination in ("left", "right") or show[4] == 0 and shows_all(show):
        return with_value(rows, 0)
    return rows
