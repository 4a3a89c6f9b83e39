"""Changes of the lines of a text."""

from lamprounds.values import is_integer


def is_change(value, many):
    """Tell whether a value is a change of a text of so many lines: a pair of a line's index and what is put there."""
    if not isinstance(value, tuple) or len(value) != 2:
        return False
    index, new = value
    if not is_integer(index) or not 0 <= index < many:
        return False
    return isinstance(new, str) and "\n" not in new


def wrong_change(changes, many):
    """Return the index of the first element that is no change or is of a line changed before, None if none is."""
    lines = []
    for index, change in enumerate(changes):
        if not is_change(change, many) or change[0] in lines:
            return index
        lines.append(change[0])
    return None


def changed_text(text, changes):
    """Return a text with changes of different lines, all made at once."""
    lines = text.split("\n")
    for index, new in changes:
        lines[index] = new
    # The lines that are taken out go last, so that all indexes are those of the text as it was.
    return "\n".join([line for line in lines if line != ""])
