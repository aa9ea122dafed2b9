"""Divides a text into words, numbers and signs."""

from tidefold.errors import PlanError

LETTERS = "abcdefghijklmnopqrstuvwxyz"
DIGITS = "0123456789"
BLANKS = " \n"
# The longer signs stand first: the first one that fits is taken.
SIGNS = ("<=", ">=", "!=", "(", ")", ",", "|", "<", ">", "=")


def tokens(text):
    """Return the tokens of a text as a list of (kind, value, place)."""
    found = []
    place = 0
    while place < len(text):
        if text[place] in BLANKS:
            place += 1
        else:
            kind, end = token_at(text, place)
            written = text[place:end]
            value = int(written) if kind == "number" else written
            found.append((kind, value, place))
            place = end
    return found


def token_at(text, place):
    """Return the kind of the token that begins at a place, and its end."""
    end = end_of_stretch(text, place, LETTERS)
    if end > place:
        return "word", end
    digits = place + 1 if text[place] == "-" else place
    end = end_of_stretch(text, digits, DIGITS)
    if end > digits:
        return "number", end
    for sign in SIGNS:
        if text.startswith(sign, place):
            return "sign", place + len(sign)
    raise PlanError(place, "unknown character")


def end_of_stretch(text, place, characters):
    """Return the first place from this one on where another character or nothing stands."""
    while place < len(text) and text[place] in characters:
        place += 1
    return place
