"""The checker, which accepts a claim only if a certificate shows it to be true."""

from lamprounds.doing import often
from lamprounds.errors import InvalidPlan, InvalidSteps, TooMany
from lamprounds.forms import doing
from lamprounds.pictures import total
from lamprounds.reading import read_lot, read_near, read_round
from lamprounds.telling import is_form, told
from lamprounds.values import is_integer
from lamprounds.walks import walked


def comes_to(lot, plan, trip):
    """Tell whether a value is a plan of a lot whose round is this one."""
    try:
        return doing(lot, plan) == trip
    except (InvalidPlan, TooMany):
        return False


def shows_made(text, wanted, certificate):
    """Tell whether a certificate shows that a lot makes a round."""
    lot = read_lot(text)
    trip = read_near(wanted)
    return lot is not None and trip is not None and comes_to(lot, certificate, trip)


def shows_missed(text, wanted, certificate):
    """Tell whether a certificate shows that a lot does not make a round."""
    lot = read_lot(text)
    trip = read_near(wanted)
    if lot is None or trip is None:
        return False
    if lot.levels != trip.levels:
        return isinstance(certificate, tuple) and len(certificate) == 0
    if not is_form(lot.levels, certificate):
        return False
    return all([told(certificate, one) for one in lot.rounds]) and not told(certificate, trip)


def come_to_all(lot, plans, rounds):
    """Tell whether a value is a tuple of plans of a lot, one for each of these rounds."""
    if not isinstance(plans, tuple) or len(plans) != len(rounds):
        return False
    return all([comes_to(lot, plan, trip) for plan, trip in zip(plans, rounds)])


def shows_same(text, second, certificate):
    """Tell whether a certificate shows that two lots make the same rounds."""
    lot = read_lot(text)
    other = read_lot(second)
    if lot is None or other is None or not isinstance(certificate, tuple) or len(certificate) != 2:
        return False
    return come_to_all(lot, certificate[0], other.rounds) and come_to_all(other, certificate[1], lot.rounds)


def shows_alike(text, wanted, certificate):
    """Tell whether a certificate shows that two rounds are alike."""
    trip = read_round(text)
    second = read_round(wanted)
    between = read_round(certificate)
    if trip is None or second is None or between is None:
        return False
    if not trip.levels == second.levels == between.levels or trip.end != second.end:
        return False
    # The one round between then the first one is the second one then the one between. No round is made of these, as
    # it may have more lamps than a round can have.
    ahead = total(trip.levels, ((between.lamps, 0, 1), (trip.lamps, between.end, 1)))
    return ahead == total(trip.levels, ((second.lamps, 0, 1), (between.lamps, second.end, 1)))


def shows_root(text, times, certificate):
    """Tell whether a certificate shows that a round has a root."""
    trip = read_round(text)
    found = read_round(certificate)
    if trip is None or found is None or not is_integer(times) or times < 1:
        return False
    try:
        return often(found, times) == trip
    except TooMany:
        return False


def shows_steps(text, number, certificate):
    """Tell whether a certificate shows that a round can be walked with so many steps."""
    trip = read_round(text)
    if trip is None or not is_integer(number) or not isinstance(certificate, str) or len(certificate) != number:
        return False
    try:
        return walked(trip.levels, certificate) == trip
    except (InvalidSteps, TooMany):
        return False


SHOWS = {"makes": shows_made, "misses": shows_missed, "same": shows_same, "alike": shows_alike, "root": shows_root,
         "steps": shows_steps}


def accepts(claim, certificate):
    """Tell whether a value is a claim for the checker and another one is a certificate for it."""
    if not isinstance(claim, tuple) or len(claim) != 3 or not isinstance(claim[0], str) or claim[0] not in SHOWS:
        return False
    shows = SHOWS[claim[0]]
    return shows(claim[1], claim[2], certificate)
