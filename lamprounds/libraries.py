"""Libraries: lots under names, and wishes that hold for them after each change."""

from lamprounds.checks import check_lot
from lamprounds.errors import Broken, InUse, InvalidIndex, InvalidName, InvalidWish, NothingToUndo, UnknownName
from lamprounds.telling import form_of
from lamprounds.trials import Attempt
from lamprounds.values import is_integer, is_name
from lamprounds.wishes import is_kept, is_wish


class Shelf:
    """What a library has at one time, which is not changed: its lots by their names, and its wishes."""

    def __init__(self, lots, asked):
        self.lots = lots
        self.asked = asked


def first_broken(lot, name, wishes):
    """Return the index of the first wish for a name that does not hold for a lot, None if all hold."""
    form = form_of(lot)
    for index, (wished, wish) in enumerate(wishes):
        if wished == name and not is_kept(lot.levels, form, wish):
            return index
    return None


def first_wish(name, wishes):
    """Return the index of the first wish for a name, None if there is none."""
    for index, (wished, _) in enumerate(wishes):
        if wished == name:
            return index
    return None


class Library:
    """Lots under names, with wishes."""

    def __init__(self):
        # One shelf for each change that can be taken back, behind the one with which the library began.
        self.past = [Shelf({}, ())]

    def __setitem__(self, name, lot):
        if not is_name(name):
            raise InvalidName(name)
        check_lot(lot)
        shelf = self.past[-1]
        index = first_broken(lot, name, shelf.asked)
        if index is not None:
            raise Broken(index)
        self.past.append(Shelf({**shelf.lots, name: lot}, shelf.asked))

    def __getitem__(self, name):
        self.check_known(name)
        return self.past[-1].lots[name]

    def __iter__(self):
        raise TypeError("a library is not iterated over")

    def check_known(self, name):
        """Raise an error if a value is none of the names."""
        if name not in self:
            raise UnknownName(name)

    def remove(self, name):
        """Take a lot away."""
        self.check_known(name)
        shelf = self.past[-1]
        index = first_wish(name, shelf.asked)
        if index is not None:
            raise InUse(index)
        lots = {other: lot for other, lot in shelf.lots.items() if other != name}
        self.past.append(Shelf(lots, shelf.asked))

    def wish(self, name, wish):
        """Make a wish for a name."""
        self.check_known(name)
        if not is_wish(wish):
            raise InvalidWish(wish)
        shelf = self.past[-1]
        asked = shelf.asked + ((name, wish),)
        lot = shelf.lots[name]
        if not is_kept(lot.levels, form_of(lot), wish):
            raise Broken(len(shelf.asked))
        self.past.append(Shelf(shelf.lots, asked))

    def lift(self, index):
        """Take a wish away."""
        shelf = self.past[-1]
        if not is_integer(index) or not 0 <= index < len(shelf.asked):
            raise InvalidIndex(index)
        self.past.append(Shelf(shelf.lots, shelf.asked[:index] + shelf.asked[index + 1:]))

    def undo(self):
        """Take back the last change that was not taken back."""
        if len(self.past) == 1:
            raise NothingToUndo()
        self.past.pop()

    @property
    def names(self):
        """The names of the lots, ascending."""
        return tuple(sorted(list(self.past[-1].lots)))

    @property
    def wishes(self):
        """The pairs of a name and a wish, as they were passed."""
        return self.past[-1].asked

    @property
    def changes(self):
        """How many changes can be taken back."""
        return len(self.past) - 1

    def trial(self):
        """Return what a `with` statement takes to put the library back as it was, if it ends with an exception."""
        return Attempt(self)

    def tried(self, action):
        """Call a function with the library within a trial, and return what it returns."""
        with self.trial() as library:
            return action(library)

    def __contains__(self, name):
        return isinstance(name, str) and name in self.past[-1].lots

    # Without this, a library without lots would not be true, by its length.
    def __bool__(self):
        return True

    def __len__(self):
        return len(self.past[-1].lots)
