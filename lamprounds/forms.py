"""What lots make: their forms, their cosets, and plans for rounds."""

from lamprounds.checks import check_lot, check_near, check_round
from lamprounds.errors import InvalidPlan
from lamprounds.lots import Lot
from lamprounds.plans import plan_for, round_of_plan, wrong_pair
from lamprounds.telling import cosets_of, form_of, told


def form(lot):
    """Return the form of a lot."""
    check_lot(lot)
    return form_of(lot)


def cosets(lot):
    """Return the number of cosets of a lot, None if there are endlessly many."""
    check_lot(lot)
    return cosets_of(lot.levels, form_of(lot))


def check_near_of(lot, trip):
    """Raise an error if two values are not a lot and a near round."""
    check_lot(lot)
    check_round(trip)
    check_near(trip)


def makes(lot, trip):
    """Tell whether a lot makes a near round."""
    check_near_of(lot, trip)
    return lot.levels == trip.levels and told(form_of(lot), trip)


def plan(lot, trip):
    """Return a plan of a lot whose round is a near one, None if the lot does not make it."""
    check_near_of(lot, trip)
    if lot.levels != trip.levels:
        return None
    return plan_for(lot, trip)


def doing(lot, plan):
    """Return the round of a plan of a lot."""
    check_lot(lot)
    if not isinstance(plan, tuple):
        raise InvalidPlan(None)
    index = wrong_pair(plan, len(lot))
    if index is not None:
        raise InvalidPlan(index)
    return round_of_plan(lot, plan)


def check_lots(lot, other):
    """Raise an error if two values are not two lots."""
    check_lot(lot)
    check_lot(other)


def same(lot, other):
    """Tell whether two lots make the same rounds."""
    check_lots(lot, other)
    return lot.levels == other.levels and form_of(lot) == form_of(other)


def within(lot, other):
    """Tell whether another lot makes all that a lot makes."""
    check_lots(lot, other)
    if lot.levels != other.levels:
        return False
    whole = form_of(other)
    return all([told(whole, trip) for trip in lot.rounds])


def is_needless(rounds, at):
    """Tell whether one of the rounds of a lot is made by the others."""
    others = rounds[:at] + rounds[at + 1:]
    if not others:
        return not rounds[at].lamps and rounds[at].end == 0
    return told(form_of(Lot(others)), rounds[at])


def needless(lot):
    """Return the ascending indexes of the rounds of a lot that the others of the lot make."""
    check_lot(lot)
    return tuple([at for at in range(len(lot)) if is_needless(lot.rounds, at)])
