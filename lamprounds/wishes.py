"""Wishes: what is one, and whether a lot keeps it."""

from lamprounds.reading import read_near
from lamprounds.telling import cosets_of, told
from lamprounds.values import is_integer


def is_wish(value):
    """Tell whether a value is a wish."""
    if not isinstance(value, tuple) or len(value) != 2 or not isinstance(value[0], str):
        return False
    word, wanted = value
    if word in ("makes", "misses"):
        return read_near(wanted) is not None
    return word in ("step", "cosets") and is_integer(wanted) and wanted >= 0


def wrong_wish(wishes):
    """Return the index of the first element that is no wish, None if all are."""
    for index, wish in enumerate(wishes):
        if not is_wish(wish):
            return index
    return None


def is_kept(levels, form, wish):
    """Tell whether a wish holds for a lot with these levels and this form."""
    word, wanted = wish
    if word == "step":
        return form[0] == wanted
    if word == "cosets":
        number = cosets_of(levels, form)
        return number is not None and number <= wanted
    trip = read_near(wanted)
    made = trip.levels == levels and told(form, trip)
    return made if word == "makes" else not made
