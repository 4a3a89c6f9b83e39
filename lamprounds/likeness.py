"""Which rounds are alike, their roots, and which rounds commute."""

from lamprounds.checks import check_near, check_number, check_round, check_rounds
from lamprounds.errors import InvalidNumber
from lamprounds.making import round_of_lamps, round_of_runs
from lamprounds.pictures import quotient, total
from lamprounds.rounds import Round

# In this file, c then x then c undone takes the lamps on as x moved by the end of c does, and as the lamps of c less
# these moved by the end of x do. So rounds with an end other than 0 are alike if the sums of their levels over the
# places with one rest, divided by the end, are the same when moved around the circle of rests.


def rest_sums(trip):
    """Return a dict from rests to the sums of levels, where these are not 0, of the places with this rest."""
    rests = [(place % abs(trip.end), level) for place, level in trip.lamps]
    return dict(total(trip.levels, ((rests, 0, 1),)))


def turn(first, second, size):
    """Return a number by which one dict of a circle of rests is moved to another one, None if there is none."""
    if len(first) != len(second):
        return None
    if not first:
        return 0
    start = min(first)
    for rest in second:
        by = (rest - start) % size
        if {(place + by) % size: level for place, level in first.items()} == second:
            return by
    return None


def move(trip, second):
    """Return a number by which the one picture is moved to the other one, None if there is none."""
    if not trip.lamps or not second.lamps:
        return 0 if trip.lamps == second.lamps else None
    by = second.lamps[0][0] - trip.lamps[0][0]
    if total(trip.levels, ((trip.lamps, by, 1),)) == second.lamps:
        return by
    return None


def likening_end(trip, second):
    """Return the end of a round that shows that two rounds are alike, None if they are not."""
    if trip.end != second.end:
        return None
    if trip.end == 0:
        return move(trip, second)
    return turn(rest_sums(trip), rest_sums(second), abs(trip.end))


def is_alike(trip, second):
    """Tell whether two rounds are alike."""
    check_rounds(trip, second)
    return likening_end(trip, second) is not None


def alike(trip, second):
    """Return a round c such that c then the first round then c undone is the second one, None if there is none."""
    check_rounds(trip, second)
    check_near(trip)
    check_near(second)
    end = likening_end(trip, second)
    if end is None:
        return None
    if trip.end == 0:
        return Round(trip.levels, (), end)
    rest = total(trip.levels, ((second.lamps, 0, 1), (trip.lamps, end, -1)))
    runs = quotient(trip.levels, rest, trip.end)
    return round_of_runs(trip.levels, runs, abs(trip.end), end)


def still_root(trip, times):
    """Return a root of a round with the end 0, None if there is none."""
    for factor in range(trip.levels):
        lamps = total(trip.levels, ((trip.lamps, 0, factor),))
        if total(trip.levels, ((lamps, 0, times),)) == trip.lamps:
            return round_of_lamps(trip.levels, lamps, 0)
    return None


def root(trip, times):
    """Return a round that is the given one if it is done so many times, None if there is none."""
    check_round(trip)
    check_number(times)
    if times < 1:
        raise InvalidNumber(times)
    if trip.end == 0:
        return still_root(trip, times)
    if trip.end % times != 0:
        return None
    end = trip.end // times
    # The root less itself moved by the whole end is the round less itself moved by the root's end.
    ends = total(trip.levels, ((trip.lamps, 0, 1), (trip.lamps, end, -1)))
    runs = quotient(trip.levels, ends, trip.end)
    if runs is None:
        return None
    return round_of_runs(trip.levels, runs, abs(trip.end), end)


def commute(trip, second):
    """Tell whether the one round then the other one is the other one then the one."""
    check_rounds(trip, second)
    ahead = total(trip.levels, ((trip.lamps, 0, 1), (second.lamps, trip.end, 1)))
    behind = total(trip.levels, ((second.lamps, 0, 1), (trip.lamps, second.end, 1)))
    return ahead == behind
