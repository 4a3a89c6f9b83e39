"""The rounds that calls return, with as many lamps as are let."""

from lamprounds.errors import TooMany
from lamprounds.limits import MOST_LAMPS
from lamprounds.rounds import Round


def check_many(many):
    """Raise an error if a round cannot have so many lamps."""
    if many > MOST_LAMPS:
        raise TooMany(many)


def round_of_lamps(levels, lamps, end):
    """Return the round with these parts."""
    check_many(len(lamps))
    return Round(levels, lamps, end)


def round_of_runs(levels, runs, step, end):
    """Return the round with the lamps of runs, which are as `quotient` tells them for a number of this size."""
    # The lamps are counted before they are listed, as there may be too many of them to list.
    check_many(sum([many for first, many, level in runs]))
    lamps = [(first + step * at, level) for first, many, level in runs for at in range(many)]
    return Round(levels, tuple(sorted(lamps)), end)
