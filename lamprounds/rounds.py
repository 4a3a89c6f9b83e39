"""Rounds: how far they take the lamps on, and where they end."""

from lamprounds.errors import InvalidLamps, InvalidLevels, InvalidNumber, InvalidText
from lamprounds.limits import MOST_LAMPS
from lamprounds.texts import read_parts, round_text
from lamprounds.values import is_integer, is_levels, wrong_lamp


class Round:
    """A round with the levels of its lamps, its picture and its end."""

    def __init__(self, levels, lamps, end):
        if not is_levels(levels):
            raise InvalidLevels(levels)
        if not isinstance(lamps, tuple):
            raise InvalidLamps(None)
        index = wrong_lamp(levels, lamps[:MOST_LAMPS])
        if index is not None:
            raise InvalidLamps(index)
        if len(lamps) > MOST_LAMPS:
            raise InvalidLamps(MOST_LAMPS)
        if not is_integer(end):
            raise InvalidNumber(end)
        self._levels = levels
        self._lamps = lamps
        self._end = end

    @classmethod
    def read(cls, text):
        """Return the round with this text."""
        if not isinstance(text, str):
            raise InvalidText(text)
        parts = read_parts(text)
        if parts is None:
            raise InvalidText(text)
        levels, lamps, end = parts
        try:
            return cls(levels, lamps, end)
        except (InvalidLevels, InvalidLamps):
            raise InvalidText(text) from None

    @property
    def levels(self):
        """How many levels each lamp has."""
        return self._levels

    @property
    def lamps(self):
        """The picture by which the round takes the lamps on."""
        return self._lamps

    @property
    def end(self):
        """The place at which the round ends, as seen from where it began."""
        return self._end

    @property
    def text(self):
        """The text of the round."""
        return round_text(self._levels, self._lamps, self._end)

    # A text has one set of parts and parts have one text, so the parts are compared.
    def __eq__(self, other):
        return (isinstance(other, Round) and self._levels == other._levels
                and self._lamps == other._lamps and self._end == other._end)

    # Without this, a round without lamps would not be true, by its length.
    def __bool__(self):
        return True

    def __len__(self):
        return len(self._lamps)

    def __str__(self):
        return str(self.text)

    def __repr__(self):
        return f"Round of {len(self._lamps)} lamps"
