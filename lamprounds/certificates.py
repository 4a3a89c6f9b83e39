"""Claims for the checker, with certificates."""

from lamprounds.forms import form, makes, plan, same
from lamprounds.likeness import alike, root
from lamprounds.walks import least_walk


def certify_made(lot, trip):
    """Return the claim that a lot makes a near round, or misses it, and a certificate."""
    if makes(lot, trip):
        return ("makes", lot.text, trip.text), plan(lot, trip)
    shown = form(lot) if lot.levels == trip.levels else ()
    return ("misses", lot.text, trip.text), shown


def certify_same(lot, other):
    """Return the claim that two lots make the same rounds, and a certificate; None if they do not."""
    if not same(lot, other):
        return None
    plans = tuple([plan(lot, trip) for trip in other.rounds])
    back = tuple([plan(other, trip) for trip in lot.rounds])
    return ("same", lot.text, other.text), (plans, back)


def certify_alike(trip, second):
    """Return the claim that two near rounds are alike, and a certificate; None if they are not."""
    between = alike(trip, second)
    if between is None:
        return None
    return ("alike", trip.text, second.text), between.text


def certify_root(trip, times):
    """Return the claim that a round has a root, and a certificate; None if it has none."""
    found = root(trip, times)
    if found is None:
        return None
    return ("root", trip.text, times), found.text


def certify_steps(trip):
    """Return the claim that a round can be walked with its least number of steps, and a certificate."""
    row = least_walk(trip)
    return ("steps", trip.text, len(row)), row
