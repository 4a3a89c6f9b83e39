"""Lots of rounds, their texts and their changes."""

from lamprounds.changes import changed_text, wrong_change
from lamprounds.errors import InvalidChanges, InvalidRounds, InvalidText
from lamprounds.limits import MOST_END, MOST_PLACE, MOST_ROUNDS
from lamprounds.rounds import Round


def is_small(trip):
    """Tell whether a round keeps the bounds of the rounds of lots."""
    sizes = [abs(place) for place, level in trip.lamps]
    return max(sizes, default=0) <= MOST_PLACE and abs(trip.end) <= MOST_END


def wrong_round(rounds):
    """Return the index of the first element that bars a tuple from being a lot, None if none does."""
    for index, trip in enumerate(rounds):
        if index == MOST_ROUNDS or not isinstance(trip, Round):
            return index
        if trip.levels != rounds[0].levels or not is_small(trip):
            return index
    return None


class Lot:
    """One to four rounds with the same levels."""

    def __init__(self, rounds):
        if not isinstance(rounds, tuple) or len(rounds) == 0:
            raise InvalidRounds(None)
        index = wrong_round(rounds)
        if index is not None:
            raise InvalidRounds(index)
        self._rounds = rounds
        self._levels = rounds[0].levels
        self._text = "\n".join([trip.text for trip in rounds])

    @classmethod
    def read(cls, text):
        """Return the lot with this text."""
        if not isinstance(text, str):
            raise InvalidText(text)
        try:
            return cls(tuple([Round.read(line) for line in text.split("\n")]))
        except (InvalidText, InvalidRounds):
            raise InvalidText(text) from None

    @property
    def rounds(self):
        """The rounds of the lot, as they were passed."""
        return self._rounds

    @property
    def levels(self):
        """How many levels each lamp has."""
        return self._levels

    @property
    def text(self):
        """The text of the lot."""
        return self._text

    def changed(self, changes):
        """Return the lot with these changes of its lines."""
        if not isinstance(changes, tuple):
            raise InvalidChanges(None)
        index = wrong_change(changes, len(self._rounds))
        if index is not None:
            raise InvalidChanges(index)
        return Lot.read(changed_text(self._text, changes))

    def __eq__(self, other):
        return isinstance(other, Lot) and self._text == other._text

    def __len__(self):
        return len(self._rounds)

    def __str__(self):
        return str(self._text)

    def __repr__(self):
        return f"Lot of {len(self._rounds)} rounds"
