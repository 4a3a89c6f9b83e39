"""Streets on which rounds are done and taken back."""

from lamprounds.checks import check_levels
from lamprounds.doing import then
from lamprounds.errors import NothingToUndo
from lamprounds.rounds import Round
from lamprounds.trials import Trial


class Street:
    """A street of lamps, dark at first, on which somebody stands at a place, 0 at first."""

    def __init__(self, levels):
        check_levels(levels)
        self._levels = levels
        self._still = Round(levels, (), 0)
        # For each doing, the round that was done and the whole round until then.
        self.past = []

    def do(self, trip):
        """Do a round from where one stands, and return the place then."""
        whole = then(self.trip, trip)
        self.past.append((trip, whole))
        return whole.end

    def undo(self):
        """Take back the last doing that was not taken back."""
        if not self.past:
            raise NothingToUndo()
        self.past.pop()

    @property
    def levels(self):
        """How many levels each lamp has."""
        return self._levels

    @property
    def place(self):
        """Where one stands."""
        return self.trip.end

    @property
    def lamps(self):
        """The picture of the lamps that are not dark."""
        return self.trip.lamps

    @property
    def done(self):
        """The rounds that were done and not taken back."""
        return tuple([trip for trip, whole in self.past])

    @property
    def trip(self):
        """The round with these lamps and this place as its end."""
        return self.past[-1][1] if self.past else self._still

    def trial(self):
        """Return what a `with` statement takes to put the street back as it was."""
        return Trial(self)

    def tried(self, action):
        """Call a function with the street within a trial, and return what it returns."""
        with self.trial() as street:
            return action(street)

    # Without this, a street on which nothing was done would not be true, by its length.
    def __bool__(self):
        return True

    def __len__(self):
        return len(self.past)
