"""What counts as an integer, as levels, as a picture and as a name."""

from lamprounds.limits import LEVELS

LETTERS = "abcdefghijklmnopqrstuvwxyz"
DIGITS = "0123456789"
MOST_NAME = 8


def is_integer(value):
    """Tell whether a value is an integer; True and False are none."""
    return isinstance(value, int) and not isinstance(value, bool)


def is_levels(value):
    """Tell whether lamps can have so many levels."""
    return is_integer(value) and value in LEVELS


def is_lamp(levels, value):
    """Tell whether a value is a pair of a place and a level other than dark."""
    if not isinstance(value, tuple) or len(value) != 2:
        return False
    place, level = value
    return is_integer(place) and is_integer(level) and 0 < level < levels


def wrong_lamp(levels, lamps):
    """Return the index of the first element that bars a tuple from being a picture, None if it is one."""
    for index, lamp in enumerate(lamps):
        if not is_lamp(levels, lamp):
            return index
        if index > 0 and lamp[0] <= lamps[index - 1][0]:
            return index
    return None


def is_name(value):
    """Tell whether a value is a name: one to eight letters and digits, a letter first."""
    if not isinstance(value, str) or not 1 <= len(value) <= MOST_NAME:
        return False
    return value[0] in LETTERS and all([sign in LETTERS + DIGITS for sign in value])
