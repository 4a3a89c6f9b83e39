"""Rounds done one behind another, undone, and done any number of times."""

from lamprounds.checks import check_number, check_round, check_rounds
from lamprounds.making import round_of_lamps, round_of_runs
from lamprounds.pictures import quotient, total
from lamprounds.rounds import Round


def then(trip, second):
    """Return the round then the second one."""
    check_rounds(trip, second)
    lamps = total(trip.levels, ((trip.lamps, 0, 1), (second.lamps, trip.end, 1)))
    return round_of_lamps(trip.levels, lamps, trip.end + second.end)


def undone(trip):
    """Return the round such that the given one then this one is still."""
    check_round(trip)
    lamps = total(trip.levels, ((trip.lamps, -trip.end, -1),))
    return Round(trip.levels, lamps, -trip.end)


def often(trip, times):
    """Return the round done so many times."""
    check_round(trip)
    check_number(times)
    end = trip.end * times
    if trip.end == 0:
        return Round(trip.levels, total(trip.levels, ((trip.lamps, 0, times),)), end)
    # All doings less all doings but moved by one end leave the first one less the one behind the last one.
    ends = total(trip.levels, ((trip.lamps, 0, 1), (trip.lamps, end, -1)))
    runs = quotient(trip.levels, ends, trip.end)
    return round_of_runs(trip.levels, runs, abs(trip.end), end)


def doings_at(end, times, distance):
    """Return how many of so many doings begin at a distance from the first one, those undone counted below 0."""
    if end == 0:
        return times if distance == 0 else 0
    if distance % end != 0:
        return 0
    number = distance // end
    if 0 <= number < times:
        return 1
    # A round undone n times undoes the doings with the numbers from -1 down to -n.
    if times <= number < 0:
        return -1
    return 0


def level_after(trip, times, place):
    """Return the level at a place when the round has been done so many times from place 0 on."""
    check_round(trip)
    check_number(times)
    check_number(place)
    levels = [level * doings_at(trip.end, times, place - at) for at, level in trip.lamps]
    return sum(levels) % trip.levels


def order(trip):
    """Return the least number above 0 of doings that are still, None if there is none."""
    check_round(trip)
    if trip.end != 0:
        return None
    if not trip.lamps:
        return 1
    # The levels are a prime number, so no lamp other than dark is dark again before.
    return trip.levels
