"""The errors that several functions raise for their arguments."""

from lamprounds.errors import InvalidLevels, InvalidNumber, NotLot, NotRound, OtherLevels, TooFar
from lamprounds.limits import MOST_NEAR
from lamprounds.lots import Lot
from lamprounds.rounds import Round
from lamprounds.values import is_integer, is_levels


def check_levels(value):
    """Raise an error if lamps cannot have so many levels."""
    if not is_levels(value):
        raise InvalidLevels(value)


def check_number(value):
    """Raise an error if a value is no integer."""
    if not is_integer(value):
        raise InvalidNumber(value)


def check_round(value):
    """Raise an error if a value is no round."""
    if not isinstance(value, Round):
        raise NotRound(value)


def check_rounds(trip, second):
    """Raise an error if two values are not two rounds with the same levels."""
    check_round(trip)
    check_round(second)
    if second.levels != trip.levels:
        raise OtherLevels(second.levels)


def check_lot(value):
    """Raise an error if a value is no lot."""
    if not isinstance(value, Lot):
        raise NotLot(value)


def size_of(trip):
    """Return the greatest size of the places and the end of a round."""
    return max([abs(place) for place, level in trip.lamps] + [abs(trip.end)])


def is_near(trip):
    """Tell whether a round is near."""
    return size_of(trip) <= MOST_NEAR


def check_near(trip):
    """Raise an error if a round is not near."""
    if not is_near(trip):
        raise TooFar(size_of(trip))
