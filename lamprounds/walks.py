"""Rows of steps: their rounds, and the shortest ones of a round."""

from lamprounds.checks import check_levels, check_round
from lamprounds.errors import InvalidSteps, TooMany
from lamprounds.limits import MOST_STEPS
from lamprounds.making import round_of_lamps
from lamprounds.pictures import total

SIGNS = ("<", ">", "+")


def wrong_sign(row):
    """Return the index of the first sign that bars a string from being a row of steps, None if it is one."""
    for index, sign in enumerate(row):
        if sign not in SIGNS or index == MOST_STEPS:
            return index
    return None


def walked(levels, steps):
    """Return the round of a row of steps."""
    check_levels(levels)
    if not isinstance(steps, str):
        raise InvalidSteps(None)
    index = wrong_sign(steps)
    if index is not None:
        raise InvalidSteps(index)
    place = 0
    presses = []
    for sign in steps:
        if sign == "+":
            presses.append((place, 1))
        else:
            place += 1 if sign == ">" else -1
    return round_of_lamps(levels, total(levels, ((presses, 0, 1),)), place)


def reach(trip):
    """Return the least and the greatest place that each row with this round comes to."""
    places = [place for place, level in trip.lamps] + [0, trip.end]
    return min(places), max(places)


def least_number(trip):
    """Return the least number of steps of the rows with this round."""
    low, high = reach(trip)
    # The way between low and high is gone twice, but only once between where a row begins and where it ends.
    return sum([level for place, level in trip.lamps]) + 2 * (high - low) - abs(trip.end)


def steps(trip):
    """Return the least number of steps of the rows with this round."""
    check_round(trip)
    return least_number(trip)


def row_by(lamps, stops):
    """Return the row that goes from place 0 to each of the stops, pressing each lamp when it first comes to it."""
    waiting = dict(lamps)
    place = 0
    signs = ["+" * waiting.pop(place, 0)]
    for stop in stops:
        sign = ">" if stop > place else "<"
        while place != stop:
            place += 1 if stop > place else -1
            signs.append(sign + "+" * waiting.pop(place, 0))
    return "".join(signs)


def least_walk(trip):
    """Return a row of least steps with this round."""
    check_round(trip)
    many = least_number(trip)
    if many > MOST_STEPS:
        raise TooMany(many)
    low, high = reach(trip)
    # What is gone once only is the way between the beginning and the end, so the first turn is away from the end.
    if trip.end < 0:
        return row_by(trip.lamps, (high, low, trip.end))
    return row_by(trip.lamps, (low, high, trip.end))
