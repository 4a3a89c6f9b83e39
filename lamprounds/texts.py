"""How integers and rounds are written, and how they are read."""


def read_integer(word):
    """Return the integer that a string writes, None if it writes none."""
    digits = word.removeprefix("-")
    # Without isascii, digits of other scripts would pass.
    if not digits.isascii() or not digits.isdigit():
        return None
    number = int(word)
    # Each integer has one text: "-0" and a 0 in front are not it.
    if str(number) != word:
        return None
    return number


def round_text(levels, lamps, end):
    """Return the text of the round with these parts."""
    if not lamps:
        return f"levels {levels} end {end} dark"
    words = " ".join([f"{place}:{level}" for place, level in lamps])
    return f"levels {levels} end {end} lamps {words}"


def read_lamp(word):
    """Return the pair of integers that a word writes, None if it writes none."""
    first, _, second = word.partition(":")
    place = read_integer(first)
    level = read_integer(second)
    if place is None or level is None:
        return None
    return place, level


def read_lamps(words):
    """Return the tuple of pairs that the words behind the end write, None if they write none."""
    if words == ["dark"]:
        return ()
    if words[0] != "lamps" or len(words) == 1:
        return None
    lamps = [read_lamp(word) for word in words[1:]]
    if None in lamps:
        return None
    return tuple(lamps)


def read_parts(text):
    """Return the levels, lamps and end that a string writes, whether they make a round or not.

    None if it does not write all of them in the form of a round's text.
    """
    words = text.split(" ")
    if len(words) < 5 or words[0] != "levels" or words[2] != "end":
        return None
    levels = read_integer(words[1])
    end = read_integer(words[3])
    lamps = read_lamps(words[4:])
    if levels is None or end is None or lamps is None:
        return None
    return levels, lamps, end
