"""Reading of values that may be the texts of rounds or lots, without errors."""

from lamprounds.checks import is_near
from lamprounds.errors import InvalidText
from lamprounds.lots import Lot
from lamprounds.rounds import Round


def read_round(text):
    """Return the round with this text, None if there is none."""
    try:
        return Round.read(text)
    except InvalidText:
        return None


def read_near(text):
    """Return the near round with this text, None if there is none."""
    trip = read_round(text)
    return trip if trip is not None and is_near(trip) else None


def read_lot(text):
    """Return the lot with this text, None if there is none."""
    try:
        return Lot.read(text)
    except InvalidText:
        return None
