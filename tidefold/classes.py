"""What a show tells of single values."""


def is_shown(show, value):
    """Return whether a show, which is not None, shows rows with this value."""
    _, low, high, holes, _, _ = show
    if low is not None and value < low:
        return False
    if high is not None and value > high:
        return False
    return value not in holes
