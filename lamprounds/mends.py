"""Which wishes hold for a lot, and the least sets of changes by which they do."""

from lamprounds.changes import changed_text, is_change
from lamprounds.checks import check_lot
from lamprounds.errors import InvalidChanges, InvalidWish, InvalidWishes
from lamprounds.limits import MOST_CHANGES
from lamprounds.reading import read_lot
from lamprounds.telling import form_of
from lamprounds.wishes import is_kept, is_wish, wrong_wish


def holds(lot, wish):
    """Tell whether a wish holds for a lot."""
    check_lot(lot)
    if not is_wish(wish):
        raise InvalidWish(wish)
    return is_kept(lot.levels, form_of(lot), wish)


def check_wishes(wishes):
    """Raise an error if a value is no tuple of wishes."""
    if not isinstance(wishes, tuple):
        raise InvalidWishes(None)
    index = wrong_wish(wishes)
    if index is not None:
        raise InvalidWishes(index)


def check_changes(changes, many):
    """Raise an error if a value is no tuple of few enough changes of a text of so many lines."""
    if not isinstance(changes, tuple):
        raise InvalidChanges(None)
    for index, change in enumerate(changes):
        if index == MOST_CHANGES or not is_change(change, many):
            raise InvalidChanges(index)


def sets_of(changes):
    """Return the sets of changes of different lines, each as ascending indexes, in the order in which they are told."""
    sets = [()]
    for index, (line, _) in enumerate(changes):
        sets = sets + [held + (index,) for held in sets if line not in [changes[at][0] for at in held]]
    return [held for _, held in sorted([(len(held), held) for held in sets])]


def keeps(text, wishes):
    """Tell whether a string is the text of a lot for which wishes hold."""
    lot = read_lot(text)
    if lot is None:
        return False
    form = form_of(lot)
    return all([is_kept(lot.levels, form, wish) for wish in wishes])


def is_part(held, whole):
    """Tell whether all indexes of one set are in another one."""
    return all([index in whole for index in held])


def mends(lot, wishes, changes):
    """Return all least sets of changes that mend a lot for wishes."""
    check_lot(lot)
    check_wishes(wishes)
    check_changes(changes, len(lot))
    least = []
    # Parts of a set are asked ahead of it, as they are smaller.
    for held in sets_of(changes):
        if any([is_part(found, held) for found in least]):
            continue
        if keeps(changed_text(lot.text, [changes[at] for at in held]), wishes):
            least.append(held)
    return tuple(least)
